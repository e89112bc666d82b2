import PyProof.Rows.All
import Wide.All
import OpenK.AllK
import Wide.FinOn
import HandS.ForMost
import HandS.Exc
import HandS.TryOnly
import HandS.ExcOwn
import HandS.WordsExc
import HandS.Defaults
import HandS.Style
import HandS.Strs
import HandS.SetFor
import HandS.SortInts
import HandS.IsInst
import HandS.CallLocal
import HandS.FStr
import HandS.Rev
import HandS.TupAny
import HandS.Walk
import HandS.HeadEnd
import HandS.HeadHook3
import PySem.Challenge.RW_codecolumns_k13_disks
import KE.KEqSeq
import HandS.Wide
import HandS.HotCalls
import HandS.Lambda
import HandS.EndTab
import HandS.HeadHook4
import HandS.RaiseMore
import KE.KExcIs
import HandS.ExcIs
import HandS.ExcField
import KE.KDflt
import HandS.ExcInit
import HandS.ClsMeth
import KE.GoesEnum
import HandS.Iter
import PyProof.AutoSeq1
import HandS.Evl
import KE.KDictPairs
import HandS.Dict
import HandS.ReCall
import KE.DataEq
import KE.Datum
import KE.DatumMore
import KE.DatumOrd
import KE.DatumMoreOrd
import HandS.Head0
import HandS.Head1
import HandS.Head2
import HandS.HeadHook1
import HandS.HeadHook2
import HandS.More
set_option Elab.async false
set_option linter.all false
set_option maxRecDepth 100000
namespace K3
open PySem PySem.Spec PyProof.Rows L2
def top (i : Nat) : Stmt := PySem.Challenge.pw_codecolumns_k13_disks.main.body.getD i (.Pass ⟨0, 0, 0, 0⟩)

/-- a def that keeps its promise, by its name -/
structure Fn (P : Program) (w : World) (K : PySem.W.Frag) (mg : Str → Option Value) (base : Heap) (CX : CXT) (k : Nat) (x : Str) (ps : List Str) (sp : Sp) : Prop where
  ex : ∃ (f : Addr) (fd : FuncData), FnOk P w K mg base CX k f fd ps sp ∧ mg x = some (.ref f) ∧ PySem.W.keepIn K (.ref f) = true ∧ Binds K fd ps []
/-- a def as it stands behind the top, by its name -/
structure Df (K : PySem.W.Frag) (mg : Str → Option Value) (x : Str) (st : Stmt) (ps : List Str) : Prop where
  ex : ∃ (f : Addr) (fd : FuncData), FunD K x x (defArgs st) (defBody st) (defScope st) [] [] f fd ∧ mg x = some (.ref f) ∧ Binds K fd ps []
section
variable {X : Cx} {CX : CXT} {k : Nat} {ps : List Str} {sp : Sp} {E : XK} {x : Str} {p pos : Pos} {e : Expr} {es : List Expr} {t : TA}
theorem pe_c (F : Fn X.prog X.w X.K X.mg X.base CX k x ps sp) (hr : Room k X.A) (hx : Passes CX X E) (ha : PA X (e :: es) t) (hg : Gl X x := by rfl) (hdb : (x == ("__debug__" : Str)) = false := by decide)
    (he : starEach (e :: es) X.env = (false, eval e X.env) :: starEach es X.env := by rfl) (hpl : (backTo pos (starEach es X.env)).any (·.1) = false := by rfl) : PE X (.Call (.Name x p) (e :: es) [] pos) (tCall sp [] E t) := by
  obtain ⟨f, fd, G, hm, hk, hb⟩ := F.ex
  exact pe_call G hr hg hm hk hb .nil hx ha hdb he hpl
theorem pe_gint {i : Int} (h : ∃ t, X.mg x = some (.int i t)) (hg : Gl X x := by rfl) (hd : (x == ("__debug__" : Str)) = false := by decide) : PE X (.Name x pos) (tC (.int i)) := by
  obtain ⟨t, h⟩ := h
  exact pe_glob hg h ⟨t, rfl⟩ hd
end
section
variable {P : Program} {w : World} {K : PySem.W.Frag} {mg : Str → Option Value} {base : Heap}
/-- THE RULE for a def that raises nothing -/
theorem Df.ok {x : Str} {st : Stmt} {N ps : List Str} {k : Nat} {sp : Sp} (D : Df K mg x st ps) (S : FnScope N ps (defScope st)) (len : ∀ vs H Q E, sp vs H Q E → vs.length = ps.length)
    (hbody : ∀ (f : Addr) (cdv : Value) (A : Around) (outer : List Env) (s : Shared) (H : Hp) (vs : List V) (Q : VK) (E : XK), Room k (A.deeper (envOfC x (defScope st) s.heap.objs.size f cdv)) → sp vs H Q E →
      ∃ t, PSs (cxOf CX0 P w K mg base N x (defScope st) f cdv A outer s H E).nox (defBody st) t ∧ t { nx := fun _ H' => Q .non H', rt := Q } (start N vs) H) : Fn P w K mg base CX0 (k + 1) x ps sp := by
  obtain ⟨f, fd, F, hm, hb⟩ := D.ex
  refine ⟨f, fd, F.ok S len fun cdv A outer s H vs Q E hr hsp => ?_, hm, F.kp, hb⟩
  obtain ⟨t, h, q⟩ := hbody f cdv A outer s H vs Q E hr hsp
  exact ⟨t, h.nox, q⟩
/-- .. for one that may raise -/
theorem Df.okX {x : Str} {st : Stmt} {N ps : List Str} {k : Nat} {sp : Sp} (D : Df K mg x st ps) (S : FnScope N ps (defScope st)) (len : ∀ vs H Q E, sp vs H Q E → vs.length = ps.length)
    (hbody : ∀ (f : Addr) (cdv : Value) (A : Around) (outer : List Env) (s : Shared) (H : Hp) (vs : List V) (Q : VK) (E : XK), Room k (A.deeper (envOfC x (defScope st) s.heap.objs.size f cdv)) → sp vs H Q E →
      ∃ t, PSs (cxOf (L2.CX P w) P w K mg base N x (defScope st) f cdv A outer s H E) (defBody st) t ∧ t { nx := fun _ H' => Q .non H', rt := Q } (start N vs) H) : Fn P w K mg base (L2.CX P w) (k + 1) x ps sp := by
  obtain ⟨f, fd, F, hm, hb⟩ := D.ex
  exact ⟨f, fd, F.ok S len fun cdv A outer s H vs Q E hr hsp => hbody f cdv A outer s H vs Q E hr hsp, hm, F.kp, hb⟩
end
/-- what the top has written besides its defs -/
structure Txt (mg : Str → Option Value) : Prop where
  b_len : mg "len" = none
  b_tuple : mg "tuple" = none
  b_list : mg "list" = none
  b_int : mg "int" = none
  b_range : mg "range" = none
  b_enumerate : mg "enumerate" = none
  b_reversed : mg "reversed" = none
  b_min : mg "min" = none
  b_max : mg "max" = none
  b_set : mg "set" = none
  b_sorted : mg "sorted" = none
  b_isinstance : mg "isinstance" = none
/-! ### heaps -/
theorem _root_.L2.Same.upd {H : Hp} {p : Addr} {o : HO} (h : H p = none) : Same H (upd H p o) := fun b u e => by rw [upd_ne (ne_of_none e h)]; exact e
theorem _root_.L2.Same.upd' {H H1 : Hp} {p : Addr} {o : HO} (s : Same H H1) (h : H1 p = none) : Same H (L2.upd H1 p o) := s.trans (Same.upd h)
theorem _root_.L2.Same.seqT {K : PySem.W.Frag} {H H' : Hp} {a : Addr} {xs : List V} (e : Same H H') (h : SqT K H a xs) : SqT K H' a xs := by
  rcases h with (h | ⟨o, h⟩) | h
  · exact .inl (.inl (e _ _ h))
  · exact .inl (.inr ⟨o, e _ _ h⟩)
  · exact .inr h
end K3

set_option linter.all false
/-! K3M: numbers packed in cells, in plain Lean -/
namespace K3
/-- how many numbers below b a cell holds: f turns left, r the reach -/
def perGo (b : Int) : Nat → Int → Nat
  | 0, _ => 0
  | f + 1, r => if r ≤ 10000 then 1 + perGo b f (r * b) else 0
def perC (b : Int) : Nat := perGo b 14 b
theorem perC_pos {b : Int} (h : b ≤ 10000) : 1 ≤ perC b := by
  show 1 ≤ (if b ≤ 10000 then 1 + perGo b 13 (b * b) else 0)
  rw [if_pos h]; omega
theorem perGo_le (b : Int) : ∀ (f : Nat) (r : Int), perGo b f r ≤ f
  | 0, _ => Nat.le_refl 0
  | f + 1, r => by
    have ih := perGo_le b f (r * b)
    show (if r ≤ 10000 then 1 + perGo b f (r * b) else 0) ≤ f + 1
    split <;> omega
theorem perC_le (b : Int) : perC b ≤ 14 := perGo_le b 14 b
/-- what the while keeps: m counted, r reached, f turns left -/
structure PerAt (b : Int) (m : Nat) (r : Int) (f : Nat) : Prop where
  sum : perC b = m + perGo b f r
  big : (2 : Int) ^ (15 - f) ≤ r
  few : f ≤ 14
theorem PerAt.start {b : Int} (h : 2 ≤ b) : PerAt b 0 b 14 := ⟨by rw [Nat.zero_add]; rfl, by simpa using h, Nat.le_refl _⟩
theorem PerAt.pos {b : Int} {m : Nat} {r : Int} {f : Nat} (h : PerAt b m r f) : 0 < r := Int.lt_of_lt_of_le (Int.pow_pos (by decide)) h.big
theorem PerAt.turn {b : Int} {m : Nat} {r : Int} {f : Nat} (h : PerAt b m r f) (hb : 2 ≤ b) (hr : r ≤ 10000) : ∃ f', PerAt b (m + 1) (r * b) f' := by
  cases f with
  | zero =>
    have h1 := h.big
    have h2 : (2 : Int) ^ (15 - 0) = 32768 := by decide
    omega
  | succ f =>
    refine ⟨f, ?_, ?_, by have := h.few; omega⟩
    · have h1 := h.sum
      have h2 : perGo b (f + 1) r = 1 + perGo b f (r * b) := if_pos hr
      rw [h1, h2]; omega
    · have h1 := h.big
      have h3 := h.few
      have e : 15 - f = (15 - (f + 1)) + 1 := by omega
      rw [e, Int.pow_succ]
      have h0 : (0 : Int) ≤ 2 ^ (15 - (f + 1)) := Int.le_of_lt (Int.pow_pos (by decide))
      exact Int.mul_le_mul h1 hb (by decide) (Int.le_trans h0 h1)
theorem PerAt.done {b : Int} {m : Nat} {r : Int} {f : Nat} (h : PerAt b m r f) (hr : ¬ r ≤ 10000) : perC b = m := by
  rw [h.sum]
  cases f with
  | zero => rfl
  | succ f =>
    show m + (if r ≤ 10000 then 1 + perGo b f (r * b) else 0) = m
    rw [if_neg hr]; rfl
/-- a cell of numbers, the first counts as it is -/
def val (b : Int) : List Int → Int
  | [] => 0
  | n :: r => val b r * b + n
def digits (b : Int) : Nat → Int → List Int
  | 0, _ => []
  | k + 1, c => (c % b) :: digits b k (c / b)
def restOf (b : Int) : Nat → Int → Int
  | 0, c => c
  | k + 1, c => restOf b k (c / b)
theorem restOf_succ (b : Int) : ∀ (k : Nat) (c : Int), restOf b (k + 1) c = restOf b k c / b
  | 0, _ => rfl
  | k + 1, c => restOf_succ b k (c / b)
theorem digits_succ (b : Int) : ∀ (k : Nat) (c : Int), digits b (k + 1) c = digits b k c ++ [restOf b k c % b]
  | 0, _ => rfl
  | k + 1, c => by
    show (c % b) :: digits b (k + 1) (c / b) = (c % b) :: (digits b k (c / b) ++ [restOf b k (c / b) % b])
    rw [digits_succ b k (c / b)]
theorem digits_length (b : Int) : ∀ (k : Nat) (c : Int), (digits b k c).length = k
  | 0, _ => rfl
  | k + 1, c => by
    show (digits b k (c / b)).length + 1 = k + 1
    rw [digits_length b k]
theorem val_digit {b n v : Int} (hn : 0 ≤ n) (hb : n < b) : (v * b + n) % b = n ∧ (v * b + n) / b = v := by
  have h0 : b ≠ 0 := by omega
  constructor
  · rw [Int.add_comm, Int.add_mul_emod_self_right]
    exact Int.emod_eq_of_lt hn hb
  · rw [Int.add_comm, Int.add_mul_ediv_right _ _ h0, Int.ediv_eq_zero_of_lt hn hb, Int.zero_add]
theorem digits_zero (b : Int) : ∀ k, digits b k 0 = List.replicate k 0
  | 0 => rfl
  | k + 1 => by
    show (0 % b) :: digits b k (0 / b) = List.replicate (k + 1) 0
    rw [Int.zero_emod, Int.zero_ediv, digits_zero b k]; rfl
theorem digits_val {b : Int} : ∀ (ns : List Int) (k : Nat), (∀ n ∈ ns, 0 ≤ n ∧ n < b) → ns.length ≤ k → digits b k (val b ns) = ns ++ List.replicate (k - ns.length) 0
  | [], k, _, _ => by rw [List.nil_append, List.length_nil, Nat.sub_zero]; exact digits_zero b k
  | n :: r, 0, _, h => absurd h (by simp)
  | n :: r, k + 1, hb, hl => by
    obtain ⟨h1, h2⟩ := val_digit (v := val b r) (hb n (List.mem_cons_self ..)).1 (hb n (List.mem_cons_self ..)).2
    show ((val b r * b + n) % b) :: digits b k ((val b r * b + n) / b) = _
    rw [h1, h2, digits_val r k (fun m hm => hb m (List.mem_cons_of_mem _ hm)) (by simpa using hl)]
    simp
/-- the cells, k numbers each -/
def pack (b : Int) (k : Nat) : Nat → List Int → List Int
  | 0, _ => []
  | _ + 1, [] => []
  | f + 1, n :: r => val b ((n :: r).take k) :: pack b k f ((n :: r).drop k)
def packed (b : Int) (ns : List Int) : List Int := pack b (perC b) ns.length ns
theorem pack_nil (b : Int) (k : Nat) : ∀ f, pack b k f [] = []
  | 0 => rfl
  | _ + 1 => rfl
/-- the i-th cell -/
theorem pack_get (b : Int) {k : Nat} (hk : 1 ≤ k) : ∀ (f : Nat) (ns : List Int) (i : Nat), ns.length ≤ f → (pack b k f ns)[i]? = if i * k < ns.length then some (val b ((ns.drop (i * k)).take k)) else none
  | 0, ns, i, h => by
    have e : ns = [] := List.length_eq_zero_iff.mp (by omega)
    subst e
    simp [pack]
  | f + 1, [], i, h => by simp [pack]
  | f + 1, n :: r, 0, h => by simp [pack]
  | f + 1, n :: r, i + 1, h => by
    show (pack b k f ((n :: r).drop k))[i]? = _
    have hl : ((n :: r).drop k).length ≤ f := by rw [List.length_drop]; simp at h ⊢; omega
    rw [pack_get b hk f _ i hl, List.length_drop, List.drop_drop]
    have e : k + i * k = (i + 1) * k := by rw [Nat.add_mul, Nat.one_mul, Nat.add_comm]
    rw [e]
    by_cases c : (i + 1) * k < (n :: r).length
    · rw [if_pos c, if_pos (by omega)]
    · rw [if_neg c, if_neg (by omega)]
theorem pack_length (b c : Int) (k : Nat) : ∀ (f : Nat) (ns ms : List Int), ns.length = ms.length → (pack b k f ns).length = (pack c k f ms).length
  | 0, _, _, _ => rfl
  | _ + 1, [], [], _ => rfl
  | _ + 1, [], _ :: _, h => by simp at h
  | _ + 1, _ :: _, [], h => by simp at h
  | f + 1, n :: r, m :: q, h => by
    show (pack b k f ((n :: r).drop k)).length + 1 = (pack c k f ((m :: q).drop k)).length + 1
    rw [pack_length b c k f ((n :: r).drop k) ((m :: q).drop k) (by rw [List.length_drop, List.length_drop, h])]
theorem pack_le (b : Int) {k : Nat} (hk : 1 ≤ k) : ∀ (f : Nat) (ns : List Int), (pack b k f ns).length ≤ ns.length
  | 0, _ => Nat.zero_le _
  | _ + 1, [] => Nat.le_refl _
  | f + 1, n :: r => by
    have ih := pack_le b hk f ((n :: r).drop k)
    rw [List.length_drop] at ih
    show (pack b k f ((n :: r).drop k)).length + 1 ≤ (n :: r).length
    simp at ih ⊢; omega
/-- read again -/
theorem unpack {b : Int} {k : Nat} (hk : 1 ≤ k) : ∀ (f : Nat) (ns : List Int), ns.length ≤ f → (∀ n ∈ ns, 0 ≤ n ∧ n < b) → ∃ z, (pack b k f ns).flatMap (digits b k) = ns ++ List.replicate z 0
  | 0, ns, h, _ => by
    have e : ns = [] := List.length_eq_zero_iff.mp (by omega)
    subst e
    exact ⟨0, rfl⟩
  | f + 1, [], _, _ => ⟨0, rfl⟩
  | f + 1, n :: r, h, hb => by
    have hl : ((n :: r).drop k).length ≤ f := by rw [List.length_drop]; simp at h ⊢; omega
    obtain ⟨z, e⟩ := unpack hk f ((n :: r).drop k) hl fun m hm => hb m (List.mem_of_mem_drop hm)
    show ∃ z, (val b ((n :: r).take k) :: pack b k f ((n :: r).drop k)).flatMap (digits b k) = _
    rw [List.flatMap_cons, e, digits_val _ k (fun m hm => hb m (List.mem_of_mem_take hm)) (by rw [List.length_take]; omega)]
    by_cases c : k ≤ (n :: r).length
    · refine ⟨z, ?_⟩
      rw [List.length_take, Nat.min_eq_left c, Nat.sub_self, List.replicate_zero, List.append_nil, ← List.append_assoc, List.take_append_drop]
    · have c' : (n :: r).length ≤ k := by omega
      rw [List.take_of_length_le c', List.drop_of_length_le c', List.nil_append, List.append_assoc, List.replicate_append_replicate]
      exact ⟨_, rfl⟩
theorem unpacked_packed {b : Int} (hb : b ≤ 10000) (ns : List Int) (h : ∀ n ∈ ns, 0 ≤ n ∧ n < b) : ((packed b ns).flatMap (digits b (perC b))).take ns.length = ns := by
  obtain ⟨z, e⟩ := unpack (perC_pos hb) ns.length ns (Nat.le_refl _) h
  show ((pack b (perC b) ns.length ns).flatMap (digits b (perC b))).take ns.length = ns
  rw [e, List.take_left']
  rfl
end K3
namespace K3
theorem val_step (b : Int) {ns : List Int} {i : Nat} {x : Int} (hi : i < ns.length) (h : ns[ns.length - 1 - i]? = some x) : val b (ns.drop (ns.length - (i + 1))) = val b (ns.drop (ns.length - i)) * b + x := by
  have e : ns.length - 1 - i = ns.length - (i + 1) := by omega
  rw [e] at h
  obtain ⟨hl, hx⟩ := List.getElem?_eq_some_iff.mp h
  rw [List.drop_eq_getElem_cons hl, hx]
  have e2 : ns.length - (i + 1) + 1 = ns.length - i := by omega
  rw [e2]
  rfl
/-- how many cells -/
def cells (k n : Nat) : Nat := (n + k - 1) / k
theorem cells_lt {k n i : Nat} (hk : 1 ≤ k) : i < cells k n ↔ i * k < n := by
  unfold cells
  constructor
  · intro h
    have h1 : (i + 1) * k ≤ n + k - 1 := Nat.le_trans (Nat.mul_le_mul_right k h) (Nat.div_mul_le_self _ _)
    rw [Nat.add_mul, Nat.one_mul] at h1
    omega
  · intro h
    refine (Nat.le_div_iff_mul_le (by omega)).mpr ?_
    rw [Nat.succ_mul]
    omega
theorem packed_eq {b : Int} (hb : b ≤ 10000) (ns : List Int) : (List.range (cells (perC b) ns.length)).map (fun i => val b ((ns.drop (i * perC b)).take (perC b))) = packed b ns := by
  have hk := perC_pos hb
  apply List.ext_getElem?
  intro i
  unfold packed
  rw [pack_get b hk _ _ _ (Nat.le_refl _), List.getElem?_map]
  by_cases c : i < cells (perC b) ns.length
  · rw [if_pos ((cells_lt hk).mp c), List.getElem?_range c]
    rfl
  · rw [if_neg (fun z => c ((cells_lt hk).mpr z)), List.getElem?_eq_none (by rw [List.length_range]; omega)]
    rfl
theorem cells_le {k n : Nat} (hk : 1 ≤ k) : cells k n ≤ n := by
  rcases Nat.lt_or_ge n (cells k n) with h | h
  · have := (cells_lt hk).mp h
    have h2 : n * 1 ≤ n * k := Nat.mul_le_mul_left n hk
    omega
  · exact h
end K3
namespace K3
theorem flat_length (b : Int) (k : Nat) : ∀ cs : List Int, (cs.flatMap (digits b k)).length = cs.length * k
  | [] => by simp
  | c :: r => by
    rw [List.flatMap_cons, List.length_append, digits_length, flat_length b k r, List.length_cons, Nat.succ_mul, Nat.add_comm]
end K3

set_option Elab.async false
set_option linter.all false
set_option maxRecDepth 100000
set_option maxHeartbeats 4000000
namespace K3
open PySem PySem.Spec PyProof.Rows L2
theorem map_at {α : Type} {f : α → V} {l : List α} {i : Nat} {y : V} (h : (l.map f)[i]? = some y) : ∃ z, l[i]? = some z ∧ y = f z := by
  rw [List.getElem?_map] at h
  cases e : l[i]? with
  | none =>
    rw [e] at h
    cases h
  | some z =>
    rw [e] at h
    exact ⟨z, rfl, (Option.some.inj h).symm⟩
theorem take_more {α : Type} : ∀ {l : List α} {i : Nat} {x : α}, l[i]? = some x → l.take (i + 1) = l.take i ++ [x]
  | [], i, x, h => by simp at h
  | a :: l, 0, x, h => by
    obtain rfl : a = x := Option.some.inj h
    rfl
  | a :: l, i + 1, x, h => by
    rw [List.take_succ_cons, take_more (l := l) (i := i) (x := x) h, List.take_succ_cons]
    rfl
theorem _root_.L2.Same.put {H H1 : Hp} {p : Addr} {o : HO} (s : Same H H1) (n : H p = none) : Same H (L2.upd H1 p o) := fun b u e => by
  rw [upd_ne (ne_of_none e n)]
  exact s b u e
theorem cutV_take (xs : List V) (m : Nat) : cutV xs none (some (m : Int)) = xs.take m := by
  unfold cutV
  rw [HT.sIx_none, HT.sIx_nat, Nat.sub_zero, List.drop_zero]
  by_cases c : m ≤ xs.length
  · rw [Nat.min_eq_left c]
  · rw [Nat.min_eq_right (by omega), List.take_length, List.take_of_length_le (by omega)]
theorem cutV_part (xs : List V) (i k : Nat) : cutV xs (some (i : Int)) (some ((i : Int) + (k : Int))) = (xs.drop i).take k := by
  have e : (i : Int) + (k : Int) = ((i + k : Nat) : Int) := by omega
  unfold cutV
  rw [e, HT.sIx_nat, HT.sIx_nat]
  by_cases c : i ≤ xs.length
  · rw [Nat.min_eq_left c]
    by_cases d : i + k ≤ xs.length
    · rw [Nat.min_eq_left d, Nat.add_sub_cancel_left]
    · rw [Nat.min_eq_right (by omega), List.take_of_length_le (by rw [List.length_drop]; omega), List.take_of_length_le (by rw [List.length_drop]; omega)]
  · rw [Nat.min_eq_right (by omega), Nat.min_eq_right (by omega), Nat.sub_self, List.take_zero, List.drop_of_length_le (by omega), List.take_nil]
theorem rgC_up {n k : Nat} (hk : 1 ≤ k) (hk2 : k < 1000000) (hn : n < 1000000) : RgC 0 (n : Int) (k : Int) (cells k n) := by
  have e : Builtin.Range.rangeSize 0 (n : Int) (k : Int) = ((cells k n : Nat) : Int) := by
    rw [rangeSize_pos (by omega) (by omega)]
    unfold cells
    rw [Int.natCast_ediv]
    congr 1
    omega
  have hc := cells_le (n := n) hk
  refine ⟨by omega, by omega, ?_, e⟩
  unfold Builtin.Range.small
  rw [e]
  simp only [Builtin.Range.rangeFitsLong, Bool.and_eq_true, Bool.or_eq_true, decide_eq_true_eq, beq_iff_eq, show ((k : Int) > 0) by omega, if_true]
  omega
/-- a comprehension of one name without an if, over any walk -/
theorem lc_all {J : It} {n : Nat} {G : Hp → Prop} {Y : Nat → Hp → V → Hp → Prop} (w : Walk J n G Y) {j : Nat} {te : TE} {σ : L2.St} {H1 : Hp} {D : Addr} {Qd : Hp → Prop} (Pv : Nat → Hp → Prop) (h0 : Pv 0 (L2.upd H1 D (.lst []))) (hG : ∀ i H, i ≤ n → Pv i H → G H)
    (hs : ∀ i x H H', i < n → Pv i H → Y i H x H' → te (σ.set j (some x)) H' fun y H4 => ∃ acc, H4 D = some (.lst acc) ∧ acc.length < sizeLine ∧ Pv (i + 1) (L2.upd H4 D (.lst (acc ++ [y])))) (hd : ∀ H, Pv n H → Qd H) :
    ∃ W : Nat → Nat → Hp → Prop, (∃ m, W 0 m (L2.upd H1 D (.lst []))) ∧ ∀ i m H, W i m H →
      (J.stop i H ∧ Qd H) ∨ (J.go i H ∧ ∃ Nx : Hp → Prop, (∀ H', Nx H' → ∃ m', m' < m ∧ W (i + 1) m' H') ∧ ∀ x H', J.yld i H x H' → gName j x (wipe σ [j]) H' fun σ2 H2 => wipe σ2 [j] = wipe σ [j] ∧ tYes σ2 H2 fun b H3 =>
        if b = true then te σ2 H3 fun y H4 => ∃ acc, H4 D = some (.lst acc) ∧ acc.length < sizeLine ∧ Nx (L2.upd H4 D (.lst (acc ++ [y]))) else Nx H3) := by
  refine lc_it w Pv h0 hG (fun i x H H' hi p y => ?_) hd
  have q := hs i x H H' hi p y
  have e : (wipe σ [j]).set j (some x) = σ.set j (some x) := by
    show (σ.set j none).set j (some x) = σ.set j (some x)
    rw [List.set_set]
  refine ⟨?_, ?_⟩
  · show ((σ.set j none).set j (some x)).set j none = σ.set j none
    rw [List.set_set, List.set_set]
  · show (if true = true then te ((wipe σ [j]).set j (some x)) H' (fun y H4 => ∃ acc, H4 D = some (.lst acc) ∧ acc.length < sizeLine ∧ Pv (i + 1) (L2.upd H4 D (.lst (acc ++ [y])))) else Pv (i + 1) H')
    rw [e, if_pos rfl]
    exact q
theorem sl_listK {X : Cx} {K : PySem.W.Frag} (e : X.K = K) : SlR X (rSlL K) := by
  subst e
  exact sl_list
section
variable {P : Program} {w : World} {K : PySem.W.Frag} {mg : Str → Option Value} {base : Heap}
def spPer : Sp := fun vs H Q _ => ∃ b : Int, vs = [.int b] ∧ 2 ≤ b ∧ b ≤ 10000 ∧ Q (.int (perC b)) H
def reach : L2.St → Nat
  | [_, _, some (.int r)] => (10001 - r).toNat
  | _ => 0
def spChk (K : PySem.W.Frag) : Sp := fun vs H Q _ => ∃ (b : Int) (a : Addr) (ns : List Int), vs = [.int b, .ref a] ∧ SqL K H a (ns.map V.int) ∧ (∀ n ∈ ns, 0 ≤ n ∧ n < b) ∧ ∀ H', Same H H' → Q .non H'
def spCell (K : PySem.W.Frag) : Sp := fun vs H Q _ => ∃ (b : Int) (a : Addr) (ns : List Int), vs = [.int b, .ref a] ∧ SqL K H a (ns.map V.int) ∧ 2 ≤ b ∧ b ≤ 10000 ∧ Q (.int (val b ns)) H
def spNum : Sp := fun vs H Q _ => ∃ (b c : Int), vs = [.int b, .int c] ∧ 2 ≤ b ∧ b ≤ 10000 ∧ ∀ (H' : Hp) (p : Addr), Same H H' → H p = none → H' p = some (.lst ((digits b (perC b) c).map V.int)) → Q (.ref p) H'
def spPck (K : PySem.W.Frag) : Sp := fun vs H Q _ => ∃ (b : Int) (a : Addr) (ns : List Int), vs = [.int b, .ref a] ∧ SqL K H a (ns.map V.int) ∧ 2 ≤ b ∧ b ≤ 10000 ∧ (∀ n ∈ ns, 0 ≤ n ∧ n < b) ∧ ns.length ≤ 1000 ∧
  ∀ (H' : Hp) (p : Addr), Same H H' → H p = none → H' p = some (.tup ((K3.packed b ns).map V.int)) → Q (.ref p) H'
def spUnp (K : PySem.W.Frag) : Sp := fun vs H Q _ => ∃ (b : Int) (a : Addr) (cs : List Int) (m : Nat), vs = [.int b, .ref a, .int m] ∧ SqT K H a (cs.map V.int) ∧ 2 ≤ b ∧ b ≤ 10000 ∧ cs.length ≤ 1000 ∧
  ∀ (H' : Hp) (p : Addr), Same H H' → H p = none → H' p = some (.lst (((cs.flatMap (digits b (perC b))).take m).map V.int)) → Q (.ref p) H'
end
end K3

set_option Elab.async false
set_option linter.all false
set_option maxRecDepth 100000
set_option maxHeartbeats 4000000
namespace K3
open PySem PySem.Spec PyProof.Rows L2
/-! ### == of lists of ints -/
theorem eqvAll_ints : ∀ ns ms : List Int, PyData.eqvAll (ns.map PyData.int) (ms.map PyData.int) = decide (ns = ms)
  | [], [] => rfl
  | [], _ :: _ => by simp [PyData.eqvAll]
  | _ :: _, [] => by simp [PyData.eqvAll]
  | n :: ns, m :: ms => by
    rw [List.map_cons, List.map_cons, PyData.eqvAll, eqvAll_ints ns ms, PyData.eqv]
    by_cases h : n = m
    · subst h; simp
    · simp [h]
theorem dpAll_ints {K : PySem.W.Frag} {H : Hp} : ∀ ns : List Int, DpAll K H (ns.map V.int) (ns.map PyData.int)
  | [] => .nil
  | n :: r => .cons (.int n) (dpAll_ints r)
def rEqIs (K : PySem.W.Frag) : R2 := fun x y H Q => ∃ (a b : Addr) (ns ms : List Int), x = .ref a ∧ y = .ref b ∧ SqL K H a (ns.map V.int) ∧ SqL K H b (ms.map V.int) ∧ Q (.bl (decide (ns = ms))) H
def rNeIs (K : PySem.W.Frag) : R2 := fun x y H Q => ∃ (a b : Addr) (ns ms : List Int), x = .ref a ∧ y = .ref b ∧ SqL K H a (ns.map V.int) ∧ SqL K H b (ms.map V.int) ∧ Q (.bl (!decide (ns = ms))) H
theorem op_eqIs {X : Cx} (hu : X.A.units + 64 < cLine) : OpR X (compareOp .Eq) (rEqIs X.K) := by
  intro pins s σ H x y v u Q I rx ry ⟨a, b, ns, ms, ex, ey, h1, h2, q⟩
  subst ex ey
  refine op_eqD hu pins s σ H _ _ v u Q I rx ry ⟨_, _, .lst h1 (dpAll_ints ns), .lst h2 (dpAll_ints ms), PySem.W.ke_shaped_ints ns, PySem.W.ke_shaped_ints ms, ?_⟩
  rw [PyData.eqv, eqvAll_ints]
  exact q
theorem op_neIs {X : Cx} (hu : X.A.units + 64 < cLine) : OpR X (compareOp .NotEq) (rNeIs X.K) := by
  intro pins s σ H x y v u Q I rx ry ⟨a, b, ns, ms, ex, ey, h1, h2, q⟩
  subst ex ey
  refine op_neD hu pins s σ H _ _ v u Q I rx ry ⟨_, _, .lst h1 (dpAll_ints ns), .lst h2 (dpAll_ints ms), PySem.W.ke_shaped_ints ns, PySem.W.ke_shaped_ints ms, ?_⟩
  rw [PyData.eqv, eqvAll_ints]
  exact q
/-! ### the box of draws -/
/-- at b the box: its list of numbers at l, its stirred number -/
def Bx (H : Hp) (b l : Addr) : Prop := ∃ (st : Int) (ns : List Int), H b = some (.lst [.ref l, .int st]) ∧ H l = some (.lst (ns.map V.int)) ∧ ns.length ≤ 63
/-- all but the box stays -/
def Out (b l : Addr) (H H' : Hp) : Prop := ∀ c o, c ≠ b → c ≠ l → H c = some o → H' c = some o
theorem Out.refl {b l : Addr} {H : Hp} : Out b l H H := fun _ _ _ _ e => e
theorem Out.trans {b l : Addr} {H H1 H2 : Hp} (a : Out b l H H1) (c : Out b l H1 H2) : Out b l H H2 := fun d o h1 h2 e => c d o h1 h2 (a d o h1 h2 e)
theorem Out.of {b l : Addr} {H H' : Hp} (s : Same H H') : Out b l H H' := fun _ _ _ _ e => s _ _ e
theorem Out.b {b l : Addr} {H : Hp} {o : HO} : Out b l H (upd H b o) := fun c u h1 _ e => by rw [upd_ne h1]; exact e
theorem Out.l {b l : Addr} {H : Hp} {o : HO} : Out b l H (upd H l o) := fun c u _ h2 e => by rw [upd_ne h2]; exact e
theorem Bx.same {b l : Addr} {H H' : Hp} (h : Bx H b l) (s : Same H H') : Bx H' b l := by
  obtain ⟨st, ns, h1, h2, h3⟩ := h
  exact ⟨st, ns, s _ _ h1, s _ _ h2, h3⟩
theorem Bx.ne {b l : Addr} {H : Hp} (h : Bx H b l) : b ≠ l := by
  obtain ⟨st, ns, h1, h2, h3⟩ := h
  intro e
  subst e
  rw [h1] at h2
  have e2 := HO.lst.inj (Option.some.inj h2)
  cases ns with
  | nil => cases e2
  | cons n r => cases e2
/-- what stands apart from the box is kept -/
theorem Out.at {b l p : Addr} {H H' : Hp} {o : HO} (h : Out b l H H') (h1 : p ≠ b) (h2 : p ≠ l) (e : H p = some o) : H' p = some o := h p o h1 h2 e
theorem Bx.free {b l p : Addr} {H : Hp} (h : Bx H b l) (n : H p = none) : p ≠ b ∧ p ≠ l := by
  obtain ⟨st, ns, h1, h2, h3⟩ := h
  exact ⟨fun e => (by rw [e, h1] at n; cases n), fun e => (by rw [e, h2] at n; cases n)⟩
theorem at0 {x : V} {xs : List V} : atI (x :: xs) 0 = some x := at_of (z := 0) (j := 0) rfl rfl
theorem ix0 (n : Nat) : ixN (n + 1) 0 = some 0 := by
  unfold ixN
  simp
section
variable {P : Program} {w : World} {K : PySem.W.Frag} {mg : Str → Option Value} {base : Heap}
abbrev s__law_begun : Stmt := top 22
abbrev N__law_begun : List Str := ["_law_script", "_law_stirred", "_law_cell"]
abbrev P__law_begun : List Str := ["_law_script"]
theorem sc__law_begun : FnScope N__law_begun P__law_begun (defScope s__law_begun) := ⟨rfl, rfl, rfl, by decide +kernel, rfl, by decide +kernel, by decide +kernel⟩
def spBegun (K : PySem.W.Frag) : Sp := fun vs H Q _ => ∃ (a : Addr) (ns : List Int), vs = [.ref a] ∧ SqL K H a (ns.map V.int) ∧ ns.length ≤ 63 ∧
  ∀ (H' : Hp) (b l : Addr), Same H H' → Bx H' b l → Q (.ref b) H'
theorem ok_begun (T : Txt mg) (D : Df K mg "_law_begun" s__law_begun P__law_begun) : Fn P w K mg base CX0 1 "_law_begun" P__law_begun (spBegun K) := by
  refine D.ok sc__law_begun (fun vs H Q E h => ?_) (fun f cdv A outer s H vs Q E hr h => ?_)
  · obtain ⟨a, ns, rfl, _⟩ := h
    rfl
  · obtain ⟨a, ns, rfl, hS, hl, k⟩ := h
    have nd := sc__law_begun.nd
    refine ⟨_, (pss_cons (ps_set (i := 1) nd rfl (by first | exact Or.inl rfl | exact Or.inr rfl) pe_int)
  (pss_cons (ps_for PassesOwn.never rfl (pi_list (pv 0)) (pg_name (i := 2) nd rfl (by first | exact Or.inl rfl | exact Or.inr rfl))
  (pss_one (ps_set (i := 1) nd rfl (by first | exact Or.inl rfl | exact Or.inr rfl) (pe_op op_mod (pe_op op_add (pe_op op_add (pe_op op_mul (pv 1) pe_int) (pe_op op_mul (pv 2) pe_int)) pe_int) pe_int))))
  (pss_one (ps_ret (pe_lst (pa_cons (pe_callTy call_list_of (by rfl) T.b_list (by decide +kernel) (pa_cons (pv 0) pa_nil)) (pa_cons (pe_op op_mul (pv 1) (pe_callTy call_int1 (by rfl) T.b_int (by decide +kernel) (pa_cons (pe_cmpR op_gt (pe_callB call_len_seq (by rfl) T.b_len (by decide +kernel) (pa_cons (pv 0) pa_nil)) pe_int (nomark _)) pa_nil))) pa_nil))))))), ?_⟩
    refine ⟨_, rfl, a, rfl, ⟨_, hS⟩, for_it walk_list (fun i σ H' => ∃ (z : Int) (v : Option V), σ = [some (.ref a), some (.int z), v] ∧ H' = H) ⟨0, none, rfl, rfl⟩ (fun i σ H' _ ⟨_, _, _, e⟩ => e ▸ hS) ?_ ?_⟩
    · rintro i x σ H1 H2 hi ⟨z, v, rfl, rfl⟩ ⟨rfl, e⟩
      obtain ⟨y, hy, rfl⟩ := map_at e
      refine ⟨_, rfl, _, _, rfl, rfl, .inr (by constructor <;> decide), _, rfl, _, _, rfl, rfl, .inr (by constructor <;> decide), _, _, rfl, rfl, _, _, rfl, rfl, _, _, rfl, rfl, (by show (0 : Int) < 2147483647; decide), ?_⟩
      exact ⟨_, _, rfl, rfl⟩
    · rintro σ H' ⟨z, v, rfl, rfl⟩
      refine ⟨_, rfl, a, _, rfl, .inl hS, fun l nl => ?_⟩
      have hS' := (Same.upd (o := .lst (ns.map V.int)) nl).seq hS
      refine ⟨_, rfl, _, rfl, a, _, rfl, .inl hS', _, _, rfl, rfl, .inr ⟨_, rfl, ?_⟩⟩
      refine ⟨_, _, rfl, rfl, .inr ?_, (by show 2 ≤ sizeLine; decide), fun p np => ?_⟩
      · split <;> constructor <;> decide
      refine k _ p l ((Same.upd nl).upd' np) ⟨_, ns, upd_same, (upd_ne (ne_of_none upd_same np)).trans upd_same, hl⟩
abbrev s__law_take : Stmt := top 23
abbrev N__law_take : List Str := ["_law_box", "_law_many", "_law_number"]
abbrev P__law_take : List Str := ["_law_box", "_law_many"]
theorem sc__law_take : FnScope N__law_take P__law_take (defScope s__law_take) := ⟨rfl, rfl, rfl, by decide +kernel, rfl, by decide +kernel, by decide +kernel⟩
def spTake : Sp := fun vs H Q _ => ∃ (b l : Addr) (m : Int), vs = [.ref b, .int m] ∧ Bx H b l ∧ 0 < m ∧ m < 2000000000000000000 ∧
  ∀ (H' : Hp) (v : Int), Bx H' b l → Out b l H H' → 0 ≤ v → v < m → Q (.int v) H'
theorem ok_take (T : Txt mg) (D : Df K mg "_law_take" s__law_take P__law_take) : Fn P w K mg base CX0 1 "_law_take" P__law_take spTake := by
  refine D.ok sc__law_take (fun vs H Q E h => ?_) (fun f cdv A outer s H vs Q E hr h => ?_)
  · obtain ⟨b, l, m, rfl, _⟩ := h
    rfl
  · obtain ⟨b, l, m, rfl, B, m0, m1, k⟩ := h
    have nd := sc__law_take.nd
    refine ⟨_, (pss_cons (ps_if (pt_cmpR (op_eqIs hr.units) (pe_ix ix_list (pv 0) pe_int (fun _ _ => rfl)) (pe_lst pa_nil) (nomark _))
  (pss_cons (ps_asg (pe_op op_mod (pe_op op_mul (pe_ix ix_list (pv 0) pe_int (fun _ _ => rfl)) pe_int) pe_int) (pg_sub (pv 0) pe_int set_list))
  (pss_one (ps_ret (pe_op op_mod (pe_op op_fdiv (pe_ix ix_list (pv 0) pe_int (fun _ _ => rfl)) pe_int) (pv 1)))))
  pss_nil)
  (pss_cons (ps_set (i := 2) nd rfl (by first | exact Or.inl rfl | exact Or.inr rfl) (pe_ix ix_list (pe_ix ix_list (pv 0) pe_int (fun _ _ => rfl)) pe_int (fun _ _ => rfl)))
  (pss_cons (ps_asg (pe_op op_fdivW (pv 2) (pv 1)) (pg_sub (pe_ix ix_list (pv 0) pe_int (fun _ _ => rfl)) pe_int set_list))
  (pss_cons (ps_if (PW.pt (pw_or (pt_cmpR op_eq (pe_ix ix_list (pe_ix ix_list (pv 0) pe_int (fun _ _ => rfl)) pe_int (fun _ _ => rfl)) pe_int (nomark _)) (pw_or1 (pt_cmpR op_eq (pe_ix ix_list (pe_ix ix_list (pv 0) pe_int (fun _ _ => rfl)) pe_int (fun _ _ => rfl)) (pe_un un_neg pe_int) (nomark _)))))
  (pss_one (ps_expr (pe_bm PySem.F.plainAttrs_list PySem.F.slot_list_pop PySem.F.type_list_pop mt_popAt (pe_ix ix_list (pv 0) pe_int (fun _ _ => rfl)) (pa_cons pe_int pa_nil))))
  pss_nil)
  (pss_one (ps_ret (pe_op op_mod (pv 2) (pv 1)))))))), ?_⟩
    have nbl := B.ne
    obtain ⟨st, ns, h1, h2, h3⟩ := B
    refine ⟨_, rfl, b, _, 0, _, rfl, rfl, SqL.of h1, rfl, Nat.zero_le _, fun p np => ?_⟩
    refine ⟨l, p, ns, [], rfl, rfl, SqL.of ((upd_ne (ne_of_none h2 np)).trans h2), SqL.of upd_same, _, rfl, ?_⟩
    refine ite2 (fun c => ?_) (fun c => ?_)
    · have c' : ns = [] := of_decide_eq_true c
      subst c'
      refine ⟨_, rfl, b, _, 1, _, rfl, rfl, SqL.of ((upd_ne (ne_of_none h1 np)).trans h1), rfl, _, _, rfl, rfl, .inr (by constructor <;> decide), _, _, rfl, rfl, (by show (0 : Int) < 2147483647; decide), _, rfl, b, _, 1, 1, rfl, rfl, (upd_ne (ne_of_none h1 np)).trans h1, rfl, ?_⟩
      refine ⟨_, rfl, b, _, 1, _, rfl, rfl, SqL.of upd_same, rfl, _, _, rfl, rfl, ⟨by decide, by decide⟩, _, rfl, _, _, rfl, rfl, m0, ?_⟩
      refine k _ _ ⟨_, [], upd_same, ?_, Nat.zero_le _⟩ ((Out.of (Same.upd np)).trans Out.b) (Int.emod_nonneg _ (by omega)) (Int.emod_lt_of_pos _ m0)
      rw [upd_ne nbl.symm, upd_ne (ne_of_none h2 np)]
      exact h2
    · cases ns with
      | nil => exact absurd (decide_eq_true rfl) c
      | cons n r =>
        have hb : (upd H p (.lst [])) b = some (.lst [.ref l, .int st]) := (upd_ne (ne_of_none h1 np)).trans h1
        have hl : (upd H p (.lst [])) l = some (.lst (.int n :: r.map V.int)) := (upd_ne (ne_of_none h2 np)).trans h2
        have s1 : Out b l H (upd H p (.lst [])) := Out.of (Same.upd np)
        refine ⟨_, rfl, b, _, 0, _, rfl, rfl, SqL.of hb, rfl, l, _, 0, _, rfl, rfl, SqL.of hl, at0, ?_⟩
        refine ⟨_, rfl, _, rfl, _, _, rfl, rfl, wide_div (b := 64) m0 (by omega) (by decide) (by decide), _, rfl, b, _, 0, _, rfl, rfl, SqL.of hb, rfl, l, _, 0, 0, rfl, rfl, hl, ix0 _, ?_⟩
        have hb2 : (upd (upd H p (.lst [])) l (.lst (.int (n / m) :: r.map V.int))) b = some (.lst [.ref l, .int st]) := (upd_ne nbl).trans hb
        have hl2 : (upd (upd H p (.lst [])) l (.lst (.int (n / m) :: r.map V.int))) l = some (.lst (.int (n / m) :: r.map V.int)) := upd_same
        have s2 : Out b l H (upd (upd H p (.lst [])) l (.lst (.int (n / m) :: r.map V.int))) := s1.trans Out.l
        have kp : tSeq (tDrop (tBM K "list" rPopAt (tOp (rIxL K) (tVar 0) (tC (.int 0))) (tCons (tC (.int 0)) tNil))) (tRet (tOp (rI (fun _ j => 0 < j) fun i j => V.int (i % j)) (tVar 2) (tVar 1))) { nx := fun _ H' => Q .non H', rt := Q }
            [some (.ref b), some (.int m), some (.int n)] (upd (upd H p (.lst [])) l (.lst (.int (n / m) :: r.map V.int))) := by
          refine ⟨_, rfl, b, _, 0, _, rfl, rfl, SqL.of hb2, rfl, .inl ⟨rfl, _, SqL.of hl2⟩, l, _, 0, 0, _, rfl, rfl, hl2, by decide, by decide, ?_, rfl, ?_⟩
          · show seqIndex? 0 (r.map V.int).length.succ = some 0
            unfold seqIndex?
            simp
          refine ⟨_, rfl, _, rfl, _, _, rfl, rfl, m0, ?_⟩
          refine k _ _ ⟨st, r, (upd_ne nbl).trans hb2, upd_same, by simp at h3; omega⟩ (s2.trans Out.l) (Int.emod_nonneg _ (by omega)) (Int.emod_lt_of_pos _ m0)
        refine ⟨_, rfl, b, _, 0, _, rfl, rfl, SqL.of hb2, rfl, l, _, 0, _, rfl, rfl, SqL.of hl2, at0, rfl, _, rfl, ?_⟩
        refine ite2 (fun _ => kp) (fun _ => ?_)
        refine ⟨_, rfl, b, _, 0, _, rfl, rfl, SqL.of hb2, rfl, l, _, 0, _, rfl, rfl, SqL.of hl2, at0, _, rfl, rfl, _, rfl, ?_⟩
        refine ite2 (fun _ => kp) (fun _ => ?_)
        refine ⟨_, rfl, _, rfl, _, _, rfl, rfl, m0, ?_⟩
        exact k _ _ ⟨st, (n / m) :: r, hb2, hl2, by simpa using h3⟩ s2 (Int.emod_nonneg _ (by omega)) (Int.emod_lt_of_pos _ m0)
end
end K3

set_option Elab.async false
set_option linter.all false
set_option maxRecDepth 100000
set_option maxHeartbeats 4000000
namespace K3
open PySem PySem.Spec PyProof.Rows L2
/-- ints, truths, texts, None; tuples and lists of such: the same data -/
inductive Alk (K : PySem.W.Frag) (H : Hp) : Nat → V → V → Prop where
  | non {n : Nat} : Alk K H n .non .non
  | int {n : Nat} (i : Int) : Alk K H n (.int i) (.int i)
  | bl {n : Nat} (b : Bool) : Alk K H n (.bl b) (.bl b)
  | str {n : Nat} (z : Str) : Alk K H n (.str z) (.str z)
  | tup {n : Nat} {a b : Addr} {xs ys : List V} (ha : SqT K H a xs) (hb : SqT K H b ys) (hl : xs.length ≤ 10000) (h : xs.length = ys.length) (e : ∀ (i : Nat) (x y : V), xs[i]? = some x → ys[i]? = some y → Alk K H n x y) : Alk K H (n + 1) (.ref a) (.ref b)
  | lst {n : Nat} {a b : Addr} {xs ys : List V} (ha : SqL K H a xs) (hb : SqL K H b ys) (hl : xs.length ≤ 10000) (h : xs.length = ys.length) (e : ∀ (i : Nat) (x y : V), xs[i]? = some x → ys[i]? = some y → Alk K H n x y) : Alk K H (n + 1) (.ref a) (.ref b)
theorem tyX_seqT {K : PySem.W.Frag} {H : Hp} {t : Addr} {xs : List V} (h : SqT K H t xs) : TyX K H (.ref t) (.type "tuple") := by
  rcases h with (h | ⟨o, h⟩) | h
  · exact .base (.tup h)
  · exact .fTuple h
  · obtain ⟨o, _, _, e, c, _⟩ := h
    exact .kTuple e c
theorem tyX_seqL {K : PySem.W.Frag} {H : Hp} {t : Addr} {xs : List V} (h : SqL K H t xs) : TyX K H (.ref t) (.type "list") := by
  rcases h with (h | ⟨o, h⟩) | h
  · exact .base (.lst h)
  · exact .base (.frz h)
  · obtain ⟨o, _, _, e, c, _⟩ := h
    exact .kList e c
/-- the builtins that it names -/
structure Txt4 (mg : Str → Option Value) : Prop where
  b_bool : mg "bool" = none
  b_str : mg "str" = none
  b_sum : mg "sum" = none
section
variable {P : Program} {w : World} {K : PySem.W.Frag} {mg : Str → Option Value} {base : Heap}
abbrev s__law_alike : Stmt := top 24
abbrev N__law_alike : List Str := ["_law_found", "_law_due", "_law_k"]
abbrev P__law_alike : List Str := ["_law_found", "_law_due"]
theorem sc__law_alike : FnScope N__law_alike P__law_alike (defScope s__law_alike) := ⟨rfl, rfl, rfl, by decide +kernel, rfl, by decide +kernel, by decide +kernel⟩
def spAlike (K : PySem.W.Frag) (n : Nat) : Sp := fun vs H Q _ => ∃ x y, vs = [x, y] ∧ ∃ m, m < n ∧ Alk K H m x y ∧ Q (.bl true) H
theorem ok_alikeS {n : Nat} (T : Txt mg) (T4 : Txt4 mg) (D : Df K mg "_law_alike" s__law_alike P__law_alike) (G_alike : Fn P w K mg base CX0 (1 + n) "_law_alike" P__law_alike (spAlike K n)) : Fn P w K mg base CX0 (1 + n + 1) "_law_alike" P__law_alike (spAlike K (n + 1)) := by
  refine D.ok sc__law_alike (fun vs H Q E h => ?_) (fun f cdv A outer s H vs Q E hr h => ?_)
  · obtain ⟨x, y, rfl, _⟩ := h
    rfl
  · obtain ⟨x, y, rfl, m, hm, hA, k⟩ := h
    have nd := sc__law_alike.nd
    refine ⟨_, (pss_cons (ps_if (pt_cmpR op_isN (pv 1) pe_non (nomark _))
  (pss_one (ps_ret (pe_cmpR op_isN (pv 0) pe_non (nomark _))))
  pss_nil)
  (pss_cons (ps_if (pt_val (pe_callB call_isi (by rfl) T.b_isinstance (by decide +kernel) (pa_cons (pv 1) (pa_cons (pe_bltn (v := .ty "bool") (by rfl) T4.b_bool (by decide +kernel) rfl) pa_nil))))
  (pss_one (ps_ret (pe_and (pe_callB call_isi (by rfl) T.b_isinstance (by decide +kernel) (pa_cons (pv 0) (pa_cons (pe_bltn (v := .ty "bool") (by rfl) T4.b_bool (by decide +kernel) rfl) pa_nil))) (pe_one (pe_cmpR op_eq (pv 0) (pv 1) (nomark _))))))
  pss_nil)
  (pss_cons (ps_if (pt_val (pe_callB call_isi (by rfl) T.b_isinstance (by decide +kernel) (pa_cons (pv 1) (pa_cons (pe_bltn (v := .ty "int") (by rfl) T.b_int (by decide +kernel) rfl) pa_nil))))
  (pss_one (ps_ret (pe_and (pe_callB call_isi (by rfl) T.b_isinstance (by decide +kernel) (pa_cons (pv 0) (pa_cons (pe_bltn (v := .ty "int") (by rfl) T.b_int (by decide +kernel) rfl) pa_nil))) (pe_and (pe_not (pe_callB call_isi (by rfl) T.b_isinstance (by decide +kernel) (pa_cons (pv 0) (pa_cons (pe_bltn (v := .ty "bool") (by rfl) T4.b_bool (by decide +kernel) rfl) pa_nil)))) (pe_one (pe_cmpR op_eq (pv 0) (pv 1) (nomark _)))))))
  pss_nil)
  (pss_cons (ps_if (pt_val (pe_callB call_isi (by rfl) T.b_isinstance (by decide +kernel) (pa_cons (pv 1) (pa_cons (pe_bltn (v := .ty "str") (by rfl) T4.b_str (by decide +kernel) rfl) pa_nil))))
  (pss_one (ps_ret (pe_and (pe_callB call_isi (by rfl) T.b_isinstance (by decide +kernel) (pa_cons (pv 0) (pa_cons (pe_bltn (v := .ty "str") (by rfl) T4.b_str (by decide +kernel) rfl) pa_nil))) (pe_one (pe_cmpR op_eq (pv 0) (pv 1) (nomark _))))))
  pss_nil)
  (pss_cons (ps_if (PW.pt (pw_or (pt_cmpR op_ne (pe_callB call_isi (by rfl) T.b_isinstance (by decide +kernel) (pa_cons (pv 1) (pa_cons (pe_bltn (v := .ty "tuple") (by rfl) T.b_tuple (by decide +kernel) rfl) pa_nil))) (pe_callB call_isi (by rfl) T.b_isinstance (by decide +kernel) (pa_cons (pv 0) (pa_cons (pe_bltn (v := .ty "tuple") (by rfl) T.b_tuple (by decide +kernel) rfl) pa_nil))) (nomark _)) (pw_or1 (pt_cmpR op_ne (pe_callB call_isi (by rfl) T.b_isinstance (by decide +kernel) (pa_cons (pv 1) (pa_cons (pe_bltn (v := .ty "list") (by rfl) T.b_list (by decide +kernel) rfl) pa_nil))) (pe_callB call_isi (by rfl) T.b_isinstance (by decide +kernel) (pa_cons (pv 0) (pa_cons (pe_bltn (v := .ty "list") (by rfl) T.b_list (by decide +kernel) rfl) pa_nil))) (nomark _)))))
  (pss_one (ps_ret pe_bl))
  pss_nil)
  (pss_cons (ps_if (pt_cmpR op_ne (pe_callB call_len_seq (by rfl) T.b_len (by decide +kernel) (pa_cons (pv 0) pa_nil)) (pe_callB call_len_seq (by rfl) T.b_len (by decide +kernel) (pa_cons (pv 1) pa_nil)) (nomark _))
  (pss_one (ps_ret pe_bl))
  pss_nil)
  (pss_cons (ps_for PassesOwn.never rfl (pi_range1 (by rfl) T.b_range (pa_cons (pe_callB call_len_seq (by rfl) T.b_len (by decide +kernel) (pa_cons (pv 1) pa_nil)) pa_nil)) (pg_name (i := 2) nd rfl (by first | exact Or.inl rfl | exact Or.inr rfl))
  (pss_one (ps_if (pt_not (pt_val (pe_c G_alike hr pass0 (pa_cons (pe_ix ix_seq (pv 0) (pv 2) (fun _ _ => rfl)) (pa_cons (pe_ix ix_seq (pv 1) (pv 2) (fun _ _ => rfl)) pa_nil)))))
  (pss_one (ps_ret pe_bl))
  pss_nil)))
  (pss_one (ps_ret pe_bl))))))))), ?_⟩
    cases hA with
    | non =>
      refine ⟨_, rfl, rfl, _, rfl, ?_⟩
      refine ite2 (fun _ => ?_) (fun c => absurd rfl c)
      exact ⟨_, rfl, rfl, k⟩
    | int i =>
      refine ⟨_, rfl, rfl, _, rfl, ?_⟩
      refine ite2 (fun c => nomatch (of_decide_eq_true c)) (fun _ => ?_)
      refine ⟨_, rfl, _, .ty "bool", .type "int", .type "bool", false, rfl, .ty _, .base (.int _), kit_ty (by decide +kernel), _, rfl, ite2 (fun c => Bool.noConfusion c) (fun _ => ?_)⟩
      refine ⟨_, rfl, _, .ty "int", .type "int", .type "int", true, rfl, .ty _, .base (.int _), kit_ty (by decide +kernel), _, rfl, ite2 (fun _ => ?_) (fun c => absurd rfl c)⟩
      refine ⟨_, rfl, _, .ty "int", .type "int", .type "int", true, rfl, .ty _, .base (.int _), kit_ty (by decide +kernel), _, rfl, ite2 (fun _ => ?_) (fun c => absurd rfl c)⟩
      refine ⟨_, rfl, _, .ty "bool", .type "int", .type "bool", false, rfl, .ty _, .base (.int _), kit_ty (by decide +kernel), _, rfl, _, rfl, ite2 (fun _ => ?_) (fun c => absurd rfl c)⟩
      refine ⟨_, rfl, _, rfl, rfl, ?_⟩
      have e : decide (V.int i = V.int i) = true := decide_eq_true rfl
      rw [e]
      exact k
    | bl b =>
      refine ⟨_, rfl, rfl, _, rfl, ?_⟩
      refine ite2 (fun c => nomatch (of_decide_eq_true c)) (fun _ => ?_)
      refine ⟨_, rfl, _, .ty "bool", .type "bool", .type "bool", true, rfl, .ty _, .base (.bl _), kit_ty (by decide +kernel), _, rfl, ite2 (fun _ => ?_) (fun c => absurd rfl c)⟩
      refine ⟨_, rfl, _, .ty "bool", .type "bool", .type "bool", true, rfl, .ty _, .base (.bl _), kit_ty (by decide +kernel), _, rfl, ite2 (fun _ => ?_) (fun c => absurd rfl c)⟩
      refine ⟨_, rfl, _, rfl, rfl, ?_⟩
      have e : decide (V.bl b = V.bl b) = true := decide_eq_true rfl
      rw [e]
      exact k
    | str z =>
      refine ⟨_, rfl, rfl, _, rfl, ?_⟩
      refine ite2 (fun c => nomatch (of_decide_eq_true c)) (fun _ => ?_)
      refine ⟨_, rfl, _, .ty "bool", .type "str", .type "bool", false, rfl, .ty _, .base (.str _), kit_ty (by decide +kernel), _, rfl, ite2 (fun c => Bool.noConfusion c) (fun _ => ?_)⟩
      refine ⟨_, rfl, _, .ty "int", .type "str", .type "int", false, rfl, .ty _, .base (.str _), kit_ty (by decide +kernel), _, rfl, ite2 (fun c => Bool.noConfusion c) (fun _ => ?_)⟩
      refine ⟨_, rfl, _, .ty "str", .type "str", .type "str", true, rfl, .ty _, .base (.str _), kit_ty (by decide +kernel), _, rfl, ite2 (fun _ => ?_) (fun c => absurd rfl c)⟩
      refine ⟨_, rfl, _, .ty "str", .type "str", .type "str", true, rfl, .ty _, .base (.str _), kit_ty (by decide +kernel), _, rfl, ite2 (fun _ => ?_) (fun c => absurd rfl c)⟩
      refine ⟨_, rfl, _, rfl, rfl, ?_⟩
      have e : decide (V.str z = V.str z) = true := decide_eq_true rfl
      rw [e]
      exact k
    | @tup m a b xs ys ha hb hl hlen e =>
      refine ⟨_, rfl, rfl, _, rfl, ?_⟩
      refine ite2 (fun c => nomatch (of_decide_eq_true c)) (fun _ => ?_)
      refine ⟨_, rfl, _, .ty "bool", .type "tuple", .type "bool", false, rfl, .ty _, tyX_seqT hb, kit_ty (by decide +kernel), _, rfl, ite2 (fun c => Bool.noConfusion c) (fun _ => ?_)⟩
      refine ⟨_, rfl, _, .ty "int", .type "tuple", .type "int", false, rfl, .ty _, tyX_seqT hb, kit_ty (by decide +kernel), _, rfl, ite2 (fun c => Bool.noConfusion c) (fun _ => ?_)⟩
      refine ⟨_, rfl, _, .ty "str", .type "tuple", .type "str", false, rfl, .ty _, tyX_seqT hb, kit_ty (by decide +kernel), _, rfl, ite2 (fun c => Bool.noConfusion c) (fun _ => ?_)⟩
      refine ⟨_, rfl, _, .ty "tuple", .type "tuple", .type "tuple", true, rfl, .ty _, tyX_seqT hb, kit_ty (by decide +kernel), ?_⟩
      refine ⟨_, rfl, _, .ty "tuple", .type "tuple", .type "tuple", true, rfl, .ty _, tyX_seqT ha, kit_ty (by decide +kernel), rfl, _, rfl, ?_⟩
      refine ite2 (fun c => Bool.noConfusion (show false = true from c)) (fun _ => ?_)
      refine ⟨_, rfl, _, .ty "list", .type "tuple", .type "list", false, rfl, .ty _, tyX_seqT hb, kit_ty (by decide +kernel), ?_⟩
      refine ⟨_, rfl, _, .ty "list", .type "tuple", .type "list", false, rfl, .ty _, tyX_seqT ha, kit_ty (by decide +kernel), rfl, _, rfl, ?_⟩
      refine ite2 (fun c => Bool.noConfusion (show false = true from c)) (fun _ => ?_)
      refine ⟨_, rfl, a, xs, rfl, .inr ha, _, rfl, b, ys, rfl, .inr hb, rfl, _, rfl, ?_⟩
      rw [hlen, decide_eq_true (rfl : V.int (ys.length : Nat) = V.int (ys.length : Nat))]
      refine ite2 (fun c => Bool.noConfusion (show false = true from c)) (fun _ => ?_)
      refine ⟨_, rfl, b, ys, rfl, .inr hb, (ys.length : Nat), rfl, by omega, by omega, ?_⟩
      have en : ((ys.length : Nat) : Int).toNat = ys.length := Int.toNat_natCast _
      rw [en]
      refine for_it (walk_range (lo := 0)) (fun i σ H' => ∃ v, σ = [some (.ref a), some (.ref b), v] ∧ H' = H) ⟨none, rfl, rfl⟩ (fun _ _ _ _ _ => True.intro) ?_ ?_
      · rintro i x σ H1 H1' hi ⟨v, rfl, rfl⟩ ⟨rfl, rfl⟩
        have hx : xs[i]? = some (xs[i]'(by omega)) := List.getElem?_eq_getElem (by omega)
        have hy : ys[i]? = some ys[i] := List.getElem?_eq_getElem hi
        refine ⟨_, rfl, _, rfl, (.inr (.inl ⟨a, xs, _, _, rfl, rfl, ha, at_of (j := i) (by omega) hx, _, rfl, _, rfl, (.inr (.inl ⟨b, ys, _, _, rfl, rfl, hb, at_of (j := i) (by omega) hy, _, _, rfl, m, by omega, e i _ _ hx hy, ?_⟩))⟩))⟩
        refine ⟨_, rfl, ite2 (fun c => Bool.noConfusion (show false = true from c)) (fun _ => ⟨_, rfl, rfl⟩)⟩
      · rintro σ H1 ⟨v, rfl, rfl⟩
        exact k
    | @lst m a b xs ys ha hb hl hlen e =>
      refine ⟨_, rfl, rfl, _, rfl, ?_⟩
      refine ite2 (fun c => nomatch (of_decide_eq_true c)) (fun _ => ?_)
      refine ⟨_, rfl, _, .ty "bool", .type "list", .type "bool", false, rfl, .ty _, tyX_seqL hb, kit_ty (by decide +kernel), _, rfl, ite2 (fun c => Bool.noConfusion c) (fun _ => ?_)⟩
      refine ⟨_, rfl, _, .ty "int", .type "list", .type "int", false, rfl, .ty _, tyX_seqL hb, kit_ty (by decide +kernel), _, rfl, ite2 (fun c => Bool.noConfusion c) (fun _ => ?_)⟩
      refine ⟨_, rfl, _, .ty "str", .type "list", .type "str", false, rfl, .ty _, tyX_seqL hb, kit_ty (by decide +kernel), _, rfl, ite2 (fun c => Bool.noConfusion c) (fun _ => ?_)⟩
      refine ⟨_, rfl, _, .ty "tuple", .type "list", .type "tuple", false, rfl, .ty _, tyX_seqL hb, kit_ty (by decide +kernel), ?_⟩
      refine ⟨_, rfl, _, .ty "tuple", .type "list", .type "tuple", false, rfl, .ty _, tyX_seqL ha, kit_ty (by decide +kernel), rfl, _, rfl, ?_⟩
      refine ite2 (fun c => Bool.noConfusion (show false = true from c)) (fun _ => ?_)
      refine ⟨_, rfl, _, .ty "list", .type "list", .type "list", true, rfl, .ty _, tyX_seqL hb, kit_ty (by decide +kernel), ?_⟩
      refine ⟨_, rfl, _, .ty "list", .type "list", .type "list", true, rfl, .ty _, tyX_seqL ha, kit_ty (by decide +kernel), rfl, _, rfl, ?_⟩
      refine ite2 (fun c => Bool.noConfusion (show false = true from c)) (fun _ => ?_)
      refine ⟨_, rfl, a, xs, rfl, .inl ha, _, rfl, b, ys, rfl, .inl hb, rfl, _, rfl, ?_⟩
      rw [hlen, decide_eq_true (rfl : V.int (ys.length : Nat) = V.int (ys.length : Nat))]
      refine ite2 (fun c => Bool.noConfusion (show false = true from c)) (fun _ => ?_)
      refine ⟨_, rfl, b, ys, rfl, .inl hb, (ys.length : Nat), rfl, by omega, by omega, ?_⟩
      have en : ((ys.length : Nat) : Int).toNat = ys.length := Int.toNat_natCast _
      rw [en]
      refine for_it (walk_range (lo := 0)) (fun i σ H' => ∃ v, σ = [some (.ref a), some (.ref b), v] ∧ H' = H) ⟨none, rfl, rfl⟩ (fun _ _ _ _ _ => True.intro) ?_ ?_
      · rintro i x σ H1 H1' hi ⟨v, rfl, rfl⟩ ⟨rfl, rfl⟩
        have hx : xs[i]? = some (xs[i]'(by omega)) := List.getElem?_eq_getElem (by omega)
        have hy : ys[i]? = some ys[i] := List.getElem?_eq_getElem hi
        refine ⟨_, rfl, _, rfl, (.inl ⟨a, xs, _, _, rfl, rfl, ha, at_of (j := i) (by omega) hx, _, rfl, _, rfl, (.inl ⟨b, ys, _, _, rfl, rfl, hb, at_of (j := i) (by omega) hy, _, _, rfl, m, by omega, e i _ _ hx hy, ?_⟩)⟩)⟩
        refine ⟨_, rfl, ite2 (fun c => Bool.noConfusion (show false = true from c)) (fun _ => ⟨_, rfl, rfl⟩)⟩
      · rintro σ H1 ⟨v, rfl, rfl⟩
        exact k
theorem ok_alike0 (D : Df K mg "_law_alike" s__law_alike P__law_alike) : Fn P w K mg base CX0 1 "_law_alike" P__law_alike (spAlike K 0) := by
  obtain ⟨f, fd, F, hm, hb⟩ := D.ex
  refine ⟨f, fd, ⟨fun vs H Q E h => ?_, fun A outer s H args us vs Q E _ _ _ _ h => ?_⟩, hm, F.kp, hb⟩
  · obtain ⟨x, y, _, m, h, _⟩ := h
    exact absurd h (Nat.not_lt_zero _)
  · obtain ⟨x, y, _, m, h, _⟩ := h
    exact absurd h (Nat.not_lt_zero _)
theorem ok_alike (T : Txt mg) (T4 : Txt4 mg) (D : Df K mg "_law_alike" s__law_alike P__law_alike) : ∀ n, Fn P w K mg base CX0 (1 + n) "_law_alike" P__law_alike (spAlike K n)
  | 0 => ok_alike0 D
  | n + 1 => ok_alikeS T T4 D (ok_alike T T4 D n)
end
end K3

set_option Elab.async false
set_option linter.all false
set_option maxRecDepth 100000
set_option maxHeartbeats 4000000
/-! KX: defs called while an exception is handled, isinstance of it, its fields; a lambda handed to a def that tells refusals -/
namespace K3
open PySem PySem.Spec PyProof.Rows L2
/-! ### defs called while an exception is handled: their promise knows which -/
structure FnP (P : Program) (w : World) (K : PySem.W.Frag) (mg : Str → Option Value) (base : Heap) (CX : CXT) (k : Nat) (f : Addr) (fd : FuncData) (ps : List Str) (sp : Addr × Obj → Sp) : Prop where
  len : ∀ p vs H Q E, sp p vs H Q E → vs.length = ps.length
  run : ∀ (A : Around) (outer : List Env) (s : Shared) (H : Hp) (args : Args) (us : List Value) (vs : List V) (Q : VK) (E : XK) (p : Addr × Obj), L2H.RoomH k A → L2H.PinOk outer H s p → Env0 P w K mg base A outer s H → BindsTo s fd args (ps.zip us) → Vals vs us → sp p vs H Q E →
    codeAny (model P w) A (.call (.ref f) args) (CR CX outer P w H s Q E) s
/-- .. by its name -/
structure Fnp (P : Program) (w : World) (K : PySem.W.Frag) (mg : Str → Option Value) (base : Heap) (CX : CXT) (k : Nat) (x : Str) (ps : List Str) (sp : Addr × Obj → Sp) : Prop where
  ex : ∃ (f : Addr) (fd : FuncData), FnP P w K mg base CX k f fd ps sp ∧ mg x = some (.ref f) ∧ PySem.W.keepIn K (.ref f) = true ∧ Binds K fd ps []
section
variable {P : Program} {w : World} {K : PySem.W.Frag} {mg : Str → Option Value} {base : Heap}
theorem Df.okP {CX : CXT} {x : Str} {st : Stmt} {N ps : List Str} {k : Nat} {sp : Addr × Obj → Sp} (D : Df K mg x st ps) (S : FnScope N ps (defScope st)) (len : ∀ p vs H Q E, sp p vs H Q E → vs.length = ps.length)
    (hbody : ∀ (f : Addr) (cdv : Value) (A : Around) (outer : List Env) (s : Shared) (H : Hp) (vs : List V) (Q : VK) (E : XK) (p : Addr × Obj), L2H.RoomH k (A.deeper (envOfC x (defScope st) s.heap.objs.size f cdv)) → sp p vs H Q E →
      ∃ t, PSs (L2H.cxH CX P w K mg base N x (defScope st) f cdv A outer s H E p) (defBody st) t ∧ t { nx := fun _ H' => Q .non H', rt := Q } (start N vs) H) : Fnp P w K mg base CX (k + 1) x ps sp := by
  obtain ⟨f, fd, F, hm, hb⟩ := D.ex
  refine ⟨f, fd, ⟨len, fun A outer s H args us vs Q E p hr hpin e0 hbt r hsp => ?_⟩, hm, F.kp, hb⟩
  obtain ⟨oc, od, dV, kV, doc, pm, an, cdv, ct, osl, rfl, lk, hcd, _, _⟩ := F.ex
  have hl := len _ _ _ _ _ hsp
  have KX : K.In s.heap := e0.mod.kin.keeps fun b o e => (e0.bs b o e).1
  have lim : s.heap.NoLimit := e0.mod.nolimit.keeps fun b o e => (e0.bs b o e).1
  have hkind : ∀ y ∈ ps.zip us, (defScope st).names.lookup y.1 = some .local ∨ ((defScope st).names.lookup y.1 = some .cell ∧ ((cellsFrom (s.heap.objs.size + 1) (defScope st).names []).lookup y.1).isSome = true) := fun ⟨n, v⟩ hy => by
    rcases S.par n (List.of_mem_zip hy).1 with q | q
    · exact .inl q
    · exact .inr ⟨q, PySem.W.cellsFrom_some _ _ _ (.inl q)⟩
  refine codeAny_call_function hr.depth (KX _ _ lk) rfl S.co S.gen rfl (PySem.W.codeRec_of KX hcd) (hbt _ _ _ _ ?_)
  refine wpAny_newFunctionEnv_cells S.kind hkind fun env he s1 xc => ?_
  subst he
  refine ⟨lim.keeps xc.toInCall.keep, codeAny_func ?_⟩
  obtain ⟨t, ht, hq⟩ := hbody f cdv A outer s H vs Q E p (hr.deeper _) hsp
  have I : Inv (L2H.cxH CX P w K mg base N x (defScope st) f cdv A outer s H E p) [] (L2.start N vs) H s1 := L2H.inv_startH S hpin e0 hl r xc
  refine wpAny_mono (ht.run [] s1 (L2.start N vs) H _ I hq) (fun fl s' hs => ?_) fun e s' hs => hs
  have fin : ∀ {σ' : L2.St} {H' : Hp} {v : V} {u : Value}, Inv (L2H.cxH CX P w K mg base N x (defScope st) f cdv A outer s H E p) [] σ' H' s' → RelV v u → Q v H' → CE outer P w H s Q u s' :=
    fun {σ' H' v u} J rv q => ⟨v, H', J.os, J.bare, J.base, J.hok, rv, q⟩
  cases fl with
  | ret u =>
    obtain ⟨v, σ', H', J, rv, q⟩ := hs
    exact fin J rv q
  | next =>
    obtain ⟨σ', H', J, q⟩ := hs
    exact fin (v := V.non) (u := Value.none) J rfl q
  | brk =>
    obtain ⟨_, _, _, q⟩ := hs
    exact False.elim q
  | cont =>
    obtain ⟨_, _, _, q⟩ := hs
    exact False.elim q
end
section
variable {X : Cx} {CX : CXT} {k : Nat} {ps : List Str} {sp : Addr × Obj → Sp} {E : L2.St → XK} {x : Str} {q pos : Pos} {e : Expr} {es : List Expr} {t : TA} {p : Addr × Obj}
/-- a call of such a def, where p is pinned -/
theorem pe_cP (F : Fnp X.prog X.w X.K X.mg X.base CX k x ps sp) (hr : L2H.RoomH k X.A) (hp : p ∈ X.pn) (hx : ∀ σ, PassesAt CX X σ (E σ)) (ha : PA X (e :: es) t) (hg : Gl X x := by rfl)
    (hdb : (x == ("__debug__" : Str)) = false := by decide) (he : starEach (e :: es) X.env = (false, eval e X.env) :: starEach es X.env := by rfl) (hpl : (backTo pos (starEach es X.env)).any (·.1) = false := by rfl) :
    PE X (.Call (.Name x q) (e :: es) [] pos) (tCallS (sp p) E t) := by
  obtain ⟨f, fd, G, hm, hk, hb⟩ := F.ex
  refine ⟨fun pins s σ H Q I h => ?_⟩
  refine wpAny_Call_Name_kw (ld_glob I hg hm ?_ hdb)
  refine PySem.W.callWith_K (h₀ := X.base) I.ok.mod.kin hk (thn (ha.run pos pins s σ H _ I h) fun us s1 ⟨vs, H1, I1, r, hq⟩ => ⟨I1.kIn, ?_⟩) he hpl
  have hl : us.length = ps.length := by rw [← r.length]; exact G.len _ _ _ _ _ hq
  have b := hb s1 us I1.kIn (by rw [List.append_nil]; exact hl)
  rw [List.append_nil] at b
  have P1 := I1.pin p (List.mem_append_left _ hp)
  have hpin : L2H.PinOk X.stack H1 s1 p := ⟨P1.1, P1.2.1, fun hm => (List.mem_cons.mp (I1.stkSub p.1 hm)).elim P1.2.2.1 P1.2.2.2.1, P1.2.2.2.2⟩
  refine wpAny_call (codeAny_mono (G.run X.A X.stack s1 H1 ⟨us, []⟩ us vs Q (E σ) p hr hpin I1.env0 b r hq) fun r s' hq => ?_)
  cases r with
  | error e => exact hx σ pins H1 s1 e s' I1 hq
  | ok fl =>
    cases fl with
    | ret u => exact I1.after hq
    | next => exact False.elim hq
    | brk => exact False.elim hq
    | cont => exact False.elim hq
end
/-! ### isinstance(e, c), e pinned -/
def rIsP (K : PySem.W.Frag) (D a : Addr) (d : Option Addr) : List V → Hp → VK → Prop := fun xs H Q => ∃ (c : V) (cv : Value) (b : Bool), xs = [.ref a, c] ∧ (∀ u, RelV c u → u = cv) ∧ PySem.W.kitOne K (.ref D) cv = some b ∧ (∀ dd, d = some dd → ∃ fs, H dd = some (.xd fs)) ∧ Q (.bl b) H
theorem call_isP {X : Cx} {a D : Addr} {oe : Obj} {d : Option Addr} (hp : (a, oe) ∈ X.pn) (C : L2.ExcC X.K D) (hz : Zc (.ref D) d oe) (hf : ∃ vs, oe.data = .fields vs) : CallR X (.builtin "isinstance") (rIsP X.K D a d) := by
  intro pins s σ H xs us Q I r h
  obtain ⟨c, cv, b, rfl, hcv, e, hd, q⟩ := h
  cases r with
  | cons rx rr =>
    cases rr with
    | cons rt rr =>
      cases rr
      cases rx
      have ec := hcv _ rt
      subst ec
      obtain ⟨hget, _⟩ := I.pin (a, oe) (List.mem_append.mpr (.inl hp))
      obtain ⟨vs, hv⟩ := hf
      have J : ∃ od, PySem.W.InstAt s.heap a oe D od := by
        obtain ⟨oc, odd, oda, osl⟩ := oe
        obtain ⟨h1, h2⟩ := hz
        dsimp only at h1 h2 hv
        subst h1 h2 hv
        cases odd with
        | none => exact ⟨none, hget, rfl, rfl, trivial⟩
        | some dd =>
          obtain ⟨fs, hfs⟩ := hd dd rfl
          have hx : ObjOk X.prog X.w H s.heap dd (.xd fs) := I.hok dd _ hfs
          obtain ⟨mA, hns, hr⟩ := hx
          obtain ⟨o, ho, _⟩ := lookIn_ns hns
          exact ⟨some o, hget, rfl, rfl, ho⟩
      obtain ⟨od, J⟩ := J
      have hcl : (PySem.W.clsIn X.K D).isSome = true := by
        obtain ⟨cd, hc, _⟩ := PySem.W.any_some C.hd
        rw [hc]
        rfl
      exact PySem.W.kia_one (PySem.W.kitx_exc (od := od) hcl C.hg C.hk C.hs C.ha C.hn C.ht C.hm) I.kIn J e (fun z => nomatch z) fun tk => ⟨.bl b, H, I.kept (t' := tk) fun _ _ z => z, rfl, q⟩
/-! ### list.count of flat values -/
def rCntV (K : PySem.W.Frag) : V → List V → Hp → VK → Prop := fun x xs H Q => ∃ (p : Addr) (ys : List V) (y : V), x = .ref p ∧ xs = [y] ∧ SqL K H p ys ∧ flatV y = true ∧ ys.all flatV = true ∧ Q (.int ((ys.countP fun z => eqV z y : Nat) : Int)) H
theorem countV {y : V} : ∀ {ys : List V} {us : List Value}, Vals ys us → ys.all flatV = true → us.countP (eqU y) = ys.countP fun z => eqV z y
  | _, _, .nil, _ => rfl
  | z :: ys, u :: us, .cons r t, f => by
    rw [List.all_cons, Bool.and_eq_true] at f
    have ih := countV (y := y) t f.2
    rw [List.countP_cons, List.countP_cons, ih, eqU_of r f.1]
theorem mt_lcountV {X : Cx} : MtR X "list.count" (rCntV X.K) := by
  intro pins s σ H x xs v us Q I rx rxs h
  obtain ⟨p, ys, y, rfl, rfl, hs, fy, fys, q⟩ := h
  cases rx
  cases rxs with
  | cons ry rt =>
    rename_i uy ut
    cases rt
    obtain ⟨its, rv, ⟨⟨cls, dd, data, sl⟩, n, ho, hc, hdn, hd⟩, hlen⟩ := I.list hs
    simp only at hc hd
    subst hc hd
    refine call_meets PySem.F.slot_list_count ⟨_, ho, rfl⟩ PySem.F.entry_list_count (PySem.F.args_list_count_2 _ _)
      (SeqAt.list_countAt p its.toArray n dd sl uy (eqU y)) ⟨ho, fun u hu => mem_eqAt ry fy rv fys u (by simpa using hu), ?_⟩
    have ec : its.toArray.toList.countP (eqU y) = ys.countP fun z => eqV z y := countV rv fys
    refine ⟨.int ((ys.countP fun z => eqV z y : Nat) : Int), H, I.tok _, ⟨s.toks, ?_⟩, q⟩
    show Value.int ((its.toArray.toList.countP (eqU y) : Nat) : Int) s.toks = Value.int ((ys.countP fun z => eqV z y : Nat) : Int) s.toks
    rw [ec]
/-! ### e.f in an except suite, whichever class it is -/
def tXfA (K : PySem.W.Frag) (a : Addr) (cls : Value) (d : Option Addr) (f : Str) (te : TE) : TE := fun σ H Q => te σ H fun x H1 => x = .ref a ∧ ∃ (C dd : Addr) (fs : List (Str × V)) (v : V), XfC K C ∧ PySem.W.findIn K (.ref C) f = some none ∧ cls = .ref C ∧ d = some dd ∧ H1 dd = some (.xd fs) ∧ fs.lookup f = some v ∧ Q v H1
theorem pe_xfA {X : Cx} {a : Addr} {oe : Obj} {cls : Value} {d : Option Addr} {pn : List (Addr × Obj)} {e : Expr} {te : TE} {pos : Pos} {n : Str}
    (hz : Zc cls d oe) (hf : ∃ vs, oe.data = .fields vs) (he : PE (X.suite a ((a, oe) :: pn)) e te) (hb : attributeBase e n X.env (eval e X.env) = eval e X.env := by rfl) :
    PE (X.suite a ((a, oe) :: pn)) (.Attribute e n pos) (tXfA X.K a cls d n te) := by
  refine ⟨fun pins s σ H Q I h => ?_⟩
  refine attr_of hb (thn (he.run pins s σ H _ I h) fun u s1 hh => ?_)
  obtain ⟨x, H1, I1, rx, ex, C, dd, fs, v, T, hno, ec, ed, ea, l, q⟩ := hh
  subst ex
  obtain rfl : u = Value.ref a := rx
  subst ec
  subst ed
  obtain ⟨ha, _⟩ := I1.pin (a, oe) (List.mem_append_left _ List.mem_cons_self)
  obtain ⟨vs, hd⟩ := hf
  have hx : ObjOk X.prog X.w H1 s1.heap dd (.xd fs) := I1.hok dd _ ea
  obtain ⟨mA, hns, hr⟩ := hx
  obtain ⟨od, ho, hl⟩ := lookIn_ns hns
  obtain ⟨u, hu, ru⟩ := RelO.some_of (v := v) (o := mA n) (by rw [← l]; exact hr n)
  have J : PySem.W.InstAt s1.heap a oe C (some od) := ⟨ha, hz.1, by unfold PySem.W.notCls; rw [hd] <;> rfl, by rw [hz.2]; exact ho⟩
  exact HandSPX.exc_get I1.kIn J T.ga T.gg T.exC (PySem.W.findObj_own T.hdC hno rfl (by rw [hl, hu])) (handed_of ru) ⟨v, H1, I1.tok _, ru, q⟩
/-! ### x(lambda: body), x a def that calls what it got -/
section
variable {X : Cx} {pins : List (Addr × Obj)} {σ : L2.St} {H HZ : Hp} {s s1 : Shared}
/-- x(), in the def that got the lambda; what it lets out is what is wished at the slots there -/
theorem pe_actS {CXg : CXT} {Eg : XK} {Ng : List Str} {qg : Str} {sg : Scope} {g f c' : Addr} {cdg pm ctv : Value} {params : Arguments} {body : Expr} {scope : Scope} {k i : Nat} {a : Str} {pn : List (Addr × Obj)} {xe : Value → Shared → Prop} {W : WX} {tb : XK → TE} {p1 p2 : Pos}
    (I : Inv X pins σ H s) (L : LamX.LamS X.env.scope scope) (hf : s.heap.get? f = some (PySem.W.kla_obj "<lambda>" (X.env.qual ++ "<lambda>") params body scope (cloFrom X.env.cells scope.names []) pm c' ctv)) (hfn : H f = none) (hfr : f ∉ frs X.stack)
    (hbind : bindArgs (PySem.W.kla_fn "<lambda>" (X.env.qual ++ "<lambda>") params body scope (cloFrom X.env.cells scope.names []) pm (.ref c') ctv) ⟨[], []⟩ = pure [])
    (tk : Takes ((cxOf CXg X.prog X.w X.K X.mg X.base Ng qg sg g cdg X.A X.stack s H Eg).tr pn xe) W) (hr : Room (k + 1) (X.A.deeper (envOfC qg sg s.heap.objs.size g cdg)))
    (hbody : ∀ (A : Around) (outer : List Env) (s : Shared) (H : Hp) (E : XK), Room k (A.deeper (LamX.lamEnv X scope s.heap.objs.size f c')) → PE (LamX.lamCx X A outer s H E scope f c') body (tb E))
    (hN : Ng[i]? = some a) (hv : Vis sg a) (hd : (a == ("__debug__" : Str)) = false := by decide) (hcd : (a == ("__classdict__" : Str)) = false := by decide) :
    PE ((cxOf CXg X.prog X.w X.K X.mg X.base Ng qg sg g cdg X.A X.stack s H Eg).tr pn xe) (.Call (.Name a p1) [] [] p2)
      (fun σZ HZ Q => σZ[i]? = some (some (.ref f)) ∧ HZ c' = some (LamX.CodeO c' (X.env.qual ++ "<lambda>")) ∧ tb (WE W σZ) σ HZ Q) := by
  refine ⟨fun pinsZ sZ σZ HZ Q IZ h => ?_⟩
  obtain ⟨hs, hc, ht⟩ := h
  refine wpAny_Call_Name_kw (thn ((pe_var (pos := p1) (i := i) hN hv hd hcd).run pinsZ sZ σZ HZ (fun v H1 => v = .ref f ∧ H1 = HZ) IZ ⟨.ref f, hs, rfl, rfl⟩) fun u s1 ⟨v, H1, I1, r1, q1⟩ => ?_)
  obtain ⟨ev, eH⟩ := q1
  subst ev
  rw [eH] at I1
  obtain rfl : u = Value.ref f := r1
  have of1 : s1.heap.get? f = some (PySem.W.kla_obj "<lambda>" (X.env.qual ++ "<lambda>") params body scope (cloFrom X.env.cells scope.names []) pm c' ctv) := I1.base.keep f _ hf hfn hfr (fun z => nomatch (show f ∈ ([] : List Addr) from z))
  refine PySem.W.callWith_F0 ⟨_, _, _, _, of1⟩ ?_
  have un : Un (frs X.stack) [] H HZ s.heap s1.heap := I1.base
  obtain ⟨⟨oc, vs, t, hoc, hdc, hvc⟩, _, _⟩ := I1.hok c' _ hc
  have rc : codeAny (model X.prog X.w) (X.A.deeper (envOfC qg sg s.heap.objs.size g cdg)) (.call (.ref f) ⟨[], []⟩) (CR (L2.CX X.prog X.w) (envOfC qg sg s.heap.objs.size g cdg :: X.stack) X.prog X.w HZ s1 Q (WE W σZ)) s1 := by
    refine PySem.W.kla_callFunE hr.depth of1 rfl L.co L.gen rfl ⟨c', oc, vs, t, rfl, hoc, hdc, hvc⟩ ?_
    rw [hbind]
    refine wpAny_pure (wpAny_newFunctionEnv (fun y hy => (L.own y hy).2) (fun y hy => absurd hy (by simp)) (fun h₁ hns hsb => ⟨I1.nolimit.fresh _ hsb, ?_⟩) L.kind)
    show codeAny _ _ (.expr body (LamX.lamEnv X scope s1.heap.objs.size f c')) _ _
    have kp : ∀ b o, s1.heap.get? b = some o → h₁.get? b = some o := fun b o e => hsb.extBut b o (Nat.ne_of_lt (Heap.lt_size e)) (Heap.get?_push_of_some _ e)
    have J : Inv (LamX.lamCx X (X.A.deeper (envOfC qg sg s.heap.objs.size g cdg)) (envOfC qg sg s.heap.objs.size g cdg :: X.stack) s1 HZ (WE W σZ) scope f c') [] σ HZ { s1 with heap := h₁, toks := s1.toks + ([] : List (Str × Value)).length } :=
      LamX.lam_start2 I L I1.env0 hr.hd un hns kp
    refine PySem.W.kla_codeExpr (wpAny_mono ((hbody _ _ s1 HZ (WE W σZ) (hr.deeper _)).run [] _ _ HZ Q J ht) (fun v s' hq => ?_) fun e s' hq => hq)
    obtain ⟨w', H', J', rv, q⟩ := hq
    exact ⟨w', H', J'.os, J'.bare, J'.base, J'.hok, rv, q⟩
  have hx : PassesAt (L2.CX X.prog X.w) ((cxOf CXg X.prog X.w X.K X.mg X.base Ng qg sg g cdg X.A X.stack s H Eg).tr pn xe) σZ (WE W σZ) := passAt tk σZ
  refine wpAny_call (codeAny_mono rc fun r s' hq => ?_)
  cases r with
  | error e => exact hx pinsZ HZ s1 e s' I1 hq
  | ok fl =>
    cases fl with
    | ret u => exact I1.after hq
    | next => exact False.elim hq
    | brk => exact False.elim hq
    | cont => exact False.elim hq
end

def GivesR (X : Cx) (Ng : List Str) (x : Str) (sg : Scope) (g : Addr) (cdg : Value) (bg : List Stmt) (a : Str) (q : Str) (k : Nat) (TT : (XK → Hp → VK → Prop) → Hp → VK → Prop) : Prop :=
  ∀ (f c' : Addr) (s : Shared) (H : Hp) (Q : VK) (tl : XK → Hp → VK → Prop), Room k (X.A.deeper (envOfC x sg s.heap.objs.size g cdg)) →
    (∀ (W : WX) (pn : List (Addr × Obj)) (xe : Value → Shared → Prop) (p1 p2 : Pos), Takes ((cxOf C8.CX0 X.prog X.w X.K X.mg X.base Ng x sg g cdg X.A X.stack s H C8.E0).tr pn xe) W →
      PE ((cxOf C8.CX0 X.prog X.w X.K X.mg X.base Ng x sg g cdg X.A X.stack s H C8.E0).tr pn xe) (.Call (.Name a p1) [] [] p2) (fun σZ HZ Q => σZ[0]? = some (some (.ref f)) ∧ HZ c' = some (LamX.CodeO c' q) ∧ tl (WE W σZ) HZ Q)) →
    H c' = some (LamX.CodeO c' q) → TT tl H Q →
    ∃ t, PSs (cxOf C8.CX0 X.prog X.w X.K X.mg X.base Ng x sg g cdg X.A X.stack s H C8.E0).nox bg t ∧ t { nx := fun _ H' => Q .non H', rt := Q } (L2.start Ng [.ref f]) H
section
variable {X : Cx}
theorem pe_lamR {T : List (Addr × Str)} {TT : (XK → Hp → VK → Prop) → Hp → VK → Prop} {x a : Str} {g c P : Addr} {k : Nat} {pg : Arguments} {bg : List Stmt} {sg : Scope} {dV kV doc pm cdv ct oc : Value} {an od : Option Addr} {osl : Array (Option Value)} {Ng : List Str}
    {params : Arguments} {body : Expr} {scope : Scope} {t : XK → TE} {p lpos pos : Pos} (hg : Gl X x) (hm : X.mg x = some (.ref g)) (hk : PySem.W.keepIn X.K (.ref g) = true)
    (lk : X.K.lookup g = some ⟨oc, od, .func (PySem.W.fnOf x x pg bg sg dV kV doc pm an cdv ct), osl⟩) (hcg : PySem.W.codeIn X.K cdv x = true) (hb : L2.Binds X.K (PySem.W.fnOf x x pg bg sg dV kV doc pm an cdv ct) [a] []) (Sg : FnScope Ng [a] sg) (hNg : Ng[0]? = some a) (hva : Vis sg a)
    (hG : GivesR X Ng x sg g cdv bg a (X.env.qual ++ "<lambda>") (k + 1) TT)
    (TB : LamX.TabB X.base X.mg c P) (hcode : X.env.code = .ref c) (hmT : (P, X.env.qual ++ "<lambda>") ∈ T) (hu : ∀ p ∈ T, p.1 = P → p.2 = X.env.qual ++ "<lambda>") (hr : Room (k + 2) X.A) (L : LamX.LamS X.env.scope scope) (hdef : defaultsOf params X.env = ([], []))
    (hbind : ∀ (q : Str) (cl : List (Str × Addr)) (pm cv ctv : Value), bindArgs (PySem.W.kla_fn "<lambda>" q params body scope cl pm cv ctv) ⟨[], []⟩ = pure [])
    (hbody : ∀ (A : Around) (outer : List Env) (s : Shared) (H : Hp) (E : XK) (f c' : Addr), Room k (A.deeper (LamX.lamEnv X scope s.heap.objs.size f c')) → PE (LamX.lamCx X A outer s H E scope f c') body (t E))
    (hdb : (x == ("__debug__" : Str)) = false := by decide) (hd : (a == ("__debug__" : Str)) = false := by decide) (hcd : (a == ("__classdict__" : Str)) = false := by decide) :
    PE X (.Call (.Name x p) [.Lambda params body scope lpos] [] pos) (LamX.tLam T TT t) := by
  refine ⟨fun pins s σ H Q I h => ?_⟩
  obtain ⟨hT, h⟩ := h
  refine wpAny_Call_Name_kw (ld_glob I hg hm ?_ hdb)
  refine PySem.W.callWith_K (h₀ := X.base) I.ok.mod.kin hk ?_ (by rfl) (by rfl)
  show wpAny _ _ (spliced ((false, eval (.Lambda params body scope lpos) X.env) :: backTo pos (starEach [] X.env))) _ _ s
  refine Calls.spliced_cons (LamX.lam_make2 I TB hcode hmT hu hT hdef (L.has I.ok) fun f c' pm' ctv H1 s' I1 eN T1 hf hfn hfr hco => ?_)
  refine Calls.spliced_nil ⟨I1.kIn, ?_⟩
  have rc : codeAny (model X.prog X.w) X.A (.call (.ref g) ⟨[.ref f], []⟩) (CR C8.CX0 X.stack X.prog X.w H1 s' Q C8.E0) s' := by
    refine LamX.run_ofS (N := Ng) (ps := [a]) (us := [.ref f]) (vs := [.ref f]) lk hcg Sg hr I1.env0 (hb s' [.ref f] I1.kIn rfl) (.cons rfl .nil) rfl fun hr' => ?_
    obtain ⟨t', ht', hq'⟩ := hG f c' s' H1 Q (fun E H' Q' => t E σ H' Q') hr' (fun W pn xe p1 p2 tk => pe_actS (i := 0) I1 L hf hfn hfr (hbind _ _ _ _ _) tk hr' (fun A outer s H E hr2 => hbody A outer s H E f c' hr2) hNg hva hd hcd) hco (h H1 eN T1)
    exact ⟨t', ht'.nox, hq'⟩
  refine wpAny_call (codeAny_mono rc fun r s2 hq => ?_)
  cases r with
  | error e => exact (show False from hq).elim
  | ok fl =>
    cases fl with
    | ret u => exact I1.after hq
    | next => exact False.elim hq
    | brk => exact False.elim hq
    | cont => exact False.elim hq
end
/-! ### texts of refusals -/
theorem int_log {i : Int} (h : i.natAbs < 2 ^ 64) : i.natAbs.log2 < 1920 := by
  by_cases z : i.natAbs = 0
  · rw [z]
    decide
  · have := (Nat.log2_lt z).mpr h
    omega
theorem int_len {i : Int} (h : i.natAbs < 2 ^ 64) : (Str.ofString (toString i)).length ≤ 1921 := PyProof.Rows.int_text_len_1921 (int_log h)
theorem str_add {a b : Str} {n m : Nat} (ha : a.length ≤ n) (hb : b.length ≤ m) : (a ++ b).length ≤ n + m := by
  rw [PySem.Str.length_append]
  omega
theorem str_fits {a : Str} {n : Nat} (h : a.length ≤ n) (hn : n ≤ 100000) : a.length ≤ sizeLine := by
  rw [sizeLine_eq]
  omega
/-! ### tables of code objects -/
theorem tabs_to {T : List (Addr × Str)} {H H' : Hp} (t : LamX.Tabs T H) (e : ∀ b o, H b = some o → ((∃ ps, o = .tbl ps) ∨ ∃ c q, o = LamX.CodeO c q) → H' b = some o) : LamX.Tabs T H' := fun p hp => by
  obtain ⟨ps, h1, h2, h3⟩ := t p hp
  refine ⟨ps, e _ _ h1 (.inl ⟨ps, rfl⟩), h2, fun pos cv hc => ?_⟩
  obtain ⟨c, e1, e2⟩ := h3 pos cv hc
  exact ⟨c, e1, e _ _ e2 (.inr ⟨c, p.2, rfl⟩)⟩
theorem tabs_put {T : List (Addr × Str)} {H : Hp} {p : Addr} {o0 o : HO} (t : LamX.Tabs T H) (h : H p = some o0) (n1 : ∀ ps, HO.tbl ps ≠ o0) (n2 : ∀ c q, LamX.CodeO c q ≠ o0) : LamX.Tabs T (upd H p o) := tabs_to t fun b u e k => by
  rw [upd_ne fun z => ?_]
  · exact e
  · rw [z, h] at e
    have e2 := Option.some.inj e
    rcases k with ⟨ps, z2⟩ | ⟨c, q, z2⟩
    · exact n1 ps (z2.symm.trans e2.symm)
    · exact n2 c q (z2.symm.trans e2.symm)
theorem code_lst {c : Addr} {q : Str} {xs : List V} : LamX.CodeO c q ≠ .lst xs := fun z => by
  unfold LamX.CodeO at z
  cases z
theorem code_dK {c : Addr} {q : Str} {kvs : List (Key × V)} : LamX.CodeO c q ≠ .dK kvs := fun z => by
  unfold LamX.CodeO at z
  cases z
theorem code_ins {c C : Addr} {q : Str} {dx : Addr} {fs : List (Str × V)} : LamX.CodeO c q ≠ .ins C dx fs := fun z => by
  unfold LamX.CodeO at z
  cases z
theorem tabs_same {T : List (Addr × Str)} {H H' : Hp} (t : LamX.Tabs T H) (s : Same H H') : LamX.Tabs T H' := t.ext s
theorem extN_same {H H' : Hp} (s : Same H H') : LamX.ExtN H H' := .of s
theorem _root_.LamX.ExtN.lst {H H' : Hp} (e : LamX.ExtN H H') {p : Addr} {xs : List V} (h : H p = some (.lst xs)) : H' p = some (.lst xs) := e _ _ h fun _ z => by cases z
theorem _root_.LamX.ExtN.seqT {K : PySem.W.Frag} {H H' : Hp} {a : Addr} {xs : List V} (e : LamX.ExtN H H') (h : SqT K H a xs) : SqT K H' a xs := by
  rcases h with (h | ⟨o, h⟩) | h
  · exact .inl (.inl (e _ _ h fun _ z => by cases z))
  · exact .inl (.inr ⟨o, e _ _ h fun _ z => by cases z⟩)
  · exact .inr h
theorem _root_.LamX.ExtN.seqL {K : PySem.W.Frag} {H H' : Hp} {a : Addr} {xs : List V} (e : LamX.ExtN H H') (h : SqL K H a xs) : SqL K H' a xs := by
  rcases h with (h | ⟨o, h⟩) | h
  · exact .inl (.inl (e _ _ h fun _ z => by cases z))
  · exact .inl (.inr ⟨o, e _ _ h fun _ z => by cases z⟩)
  · exact .inr h
section
variable {P : Program} {w : World} {K : PySem.W.Frag} {mg : Str → Option Value} {base : Heap}
/-- THE RULE for a def whose code object is at c -/
theorem okT {x : Str} {st : Stmt} {N ps : List Str} {k : Nat} {sp : Sp} {f c : Addr} {fd : FuncData} (F : FunD K x x (defArgs st) (defBody st) (defScope st) [] [] f fd) (hc : fd.code = .ref c) (S : FnScope N ps (defScope st)) (len : ∀ vs H Q E, sp vs H Q E → vs.length = ps.length)
    (hbody : ∀ (A : Around) (outer : List Env) (s : Shared) (H : Hp) (vs : List V) (Q : VK) (E : XK), Room k (A.deeper (envOfC x (defScope st) s.heap.objs.size f (.ref c))) → sp vs H Q E →
      ∃ t, PSs (cxOf CX0 P w K mg base N x (defScope st) f (.ref c) A outer s H E).nox (defBody st) t ∧ t { nx := fun _ H' => Q .non H', rt := Q } (start N vs) H) : FnOk P w K mg base CX0 (k + 1) f fd ps sp := by
  obtain ⟨oc, od, dV, kV, doc, pm, an, cdv, ct, osl, rfl, lk, hcd, _, _⟩ := F.ex
  have e : cdv = .ref c := hc
  subst e
  exact fn_of lk hcd S len fun A outer s H vs Q E hr hsp => by
    obtain ⟨t, h, q⟩ := hbody A outer s H vs Q E hr hsp
    exact ⟨t, h.nox, q⟩
end
/-- the end of a law with tables, the written part given by F -/
theorem walk_ofTE {l : PySem.W.OpenLaw} {n k : Nat} {q : Program} {loose : List Str} {XP : (Str → Option Value) → Heap → Prop} {YP : World → Heap → Prop} {d : DefRec} {CX : World → CXT} {x : Str}
    (hn : l.most = some n) (hn2 : n ≤ sizeLine) (hdf : d.params.defaults = []) (hr : Room k callerA)
    (F : ∀ (w : World) (mg : Str → Option Value) (fa : Addr) (h : Heap), YP w h → h.Ns mainGlobals mg → mg d.name = some (.ref fa) → ∃ K : PySem.W.Frag, K.In h ∧ LamX.LawAtS l w K (CX w) k n x mg fa h)
    (hCX : ∀ (w : World) (H : Hp) (s : Shared) (e : Value) (s' : Shared), CX w [] H s (fun _ _ _ => False) e s' → False) :
    PySem.W.WalkO q loose XP YP l.row.toRowW d [] (fun f vs => PySem.call f vs) := by
  refine Att.attach_callB hn hdf fun w s₀ s₁ mg mb fa o pm cd doc a vs ns G Y ho hd hcd hmg hobj hints hlen hbits hg => ?_
  obtain ⟨K, KX, fd, cs, sp, hT, nT, C, hb, hsp, hF⟩ := F w mg fa _ Y G.T.g hmg
  exact LamX.law_callTs KX G.T.g G.T.b G.T.builtins G.T.nolimit hg hT nT C G.T.bmain hobj hints (Nat.le_trans hlen hn2) hr hF hb (fun H hH hS => hsp H a ns hlen hbits hH hS) fun H e s' => hCX w H s₁ e s'
theorem tabs_start {cs : List (Addr × Addr)} {T : List (Addr × Str)} {H : Hp} (hT : ∀ p ∈ cs, H p.2 = some (.tbl #[])) (hs : ∀ q ∈ T, ∃ p ∈ cs, p.2 = q.1) : LamX.Tabs T H := fun q hq => by
  obtain ⟨p, hp, e⟩ := hs q hq
  exact LamX.TabS.nil (e ▸ hT p hp)
end K3

set_option Elab.async false
set_option linter.all false
set_option maxRecDepth 100000
set_option maxHeartbeats 4000000
/-! KL: lambdas as values: kept in lists, handed to defs, called there; some with a default -/
namespace K3
open PySem PySem.Spec PyProof.Rows L2
/-- a lambda's object -/
def LamO (f : Addr) (q : Str) (params : Arguments) (body : Expr) (scope : Scope) (clos : List (Str × Addr)) (dV : Value) (c' : Addr) : HO := .ext fun h => ∃ doc pm ctv : Value, h.get? f = some (PySem.W.kdv_obj "<lambda>" q params (.expr body) scope clos dV doc pm c' ctv)
/-- .. made in the context X, its code object at c', its defaults dvs -/
def LamAt (X : Cx) (H : Hp) (f c' : Addr) (params : Arguments) (body : Expr) (scope : Scope) (dvs : List V) : Prop :=
  ∃ dV : Value, H f = some (LamO f (X.env.qual ++ "<lambda>") params body scope (cloFrom X.env.cells scope.names []) dV c') ∧ H c' = some (LamX.CodeO c' (X.env.qual ++ "<lambda>")) ∧ ((dvs = [] ∧ dV = .none) ∨ (dvs ≠ [] ∧ ∃ t, dV = .ref t ∧ H t = some (.tup dvs)))
theorem LamAt.same {X : Cx} {H H' : Hp} {f c' : Addr} {params : Arguments} {body : Expr} {scope : Scope} {dvs : List V} (h : LamAt X H f c' params body scope dvs) (s : Same H H') : LamAt X H' f c' params body scope dvs := by
  obtain ⟨dV, h1, h2, h3⟩ := h
  refine ⟨dV, s _ _ h1, s _ _ h2, ?_⟩
  rcases h3 with z | ⟨z, t, e, ht⟩
  · exact .inl z
  · exact .inr ⟨z, t, e, s _ _ ht⟩
theorem lamO_ne {f c' : Addr} {q : Str} {params : Arguments} {body : Expr} {scope : Scope} {clos : List (Str × Addr)} {dV : Value} (ps : Array Value) : LamO f q params body scope clos dV c' ≠ .tbl ps := fun z => by
  unfold LamO at z
  cases z
theorem LamAt.extN {X : Cx} {H H' : Hp} {f c' : Addr} {params : Arguments} {body : Expr} {scope : Scope} {dvs : List V} (h : LamAt X H f c' params body scope dvs) (s : LamX.ExtN H H') : LamAt X H' f c' params body scope dvs := by
  obtain ⟨dV, h1, h2, h3⟩ := h
  refine ⟨dV, s _ _ h1 lamO_ne, s _ _ h2 LamX.codeO_ne, ?_⟩
  rcases h3 with z | ⟨z, t, e, ht⟩
  · exact .inl z
  · exact .inr ⟨z, t, e, s _ _ ht fun _ z => by cases z⟩
section
variable {X : Cx} {pins : List (Addr × Obj)} {σ : L2.St} {H : Hp} {s : Shared}
theorem lam_tail {T : List (Addr × Str)} {c P : Addr} {params : Arguments} {body : Expr} {scope : Scope} {pos : Pos} {dV : Value} {E : Value → Shared → Prop} {Q : Value → Shared → Prop} (I : Inv X pins σ H s) (TB : LamX.TabB X.base X.mg c P) (hcode : X.env.code = .ref c)
    (hm : (P, X.env.qual ++ "<lambda>") ∈ T) (hu : ∀ p ∈ T, p.1 = P → p.2 = X.env.qual ++ "<lambda>") (hT : LamX.Tabs T H) (hfree : ∀ y ∈ scope.names, y.2 = .free → ∃ c, X.env.cells.lookup y.1 = some c)
    (h : ∀ (f c' : Addr) (H1 : Hp) (s' : Shared), Inv X pins σ H1 s' → LamX.ExtN H H1 → LamX.Tabs T H1 →
      H1 f = some (LamO f (X.env.qual ++ "<lambda>") params body scope (cloFrom X.env.cells scope.names []) dV c') → H1 c' = some (LamX.CodeO c' (X.env.qual ++ "<lambda>")) → Q (.ref f) s') :
    wpAny (model X.prog X.w) X.A (makeTail "<lambda>" (X.env.qual ++ "<lambda>") params (.expr body) scope X.env dV .none none pos pos.line) Q E s := by
  obtain ⟨ps, hP, ht, ha⟩ := hT _ hm
  have bP : s.heap.BuiltinsAt X.mg P := TB.bm.keeps I.bk
  have hP' : s.heap.get? P = some { cls := .none, data := .fields ps } := I.hok P _ hP
  -- behind the code object: the function object is new
  have last : ∀ {H1 : Hp} {h' : Heap} {tk : Nat} {doc pm ctv : Value} {c' : Addr}, Inv X pins σ H1 { s with heap := h', toks := tk } → LamX.ExtN H H1 → LamX.Tabs T H1 → H1 c' = some (LamX.CodeO c' (X.env.qual ++ "<lambda>")) →
      Q (.ref h'.objs.size) { s with heap := h'.push (PySem.W.kdv_obj "<lambda>" (X.env.qual ++ "<lambda>") params (.expr body) scope (cloFrom X.env.cells scope.names []) dV doc pm c' ctv), toks := tk } := fun {H1 h' tk doc pm ctv c'} I1 e1 t1 hc => by
    have hn : H1 h'.objs.size = none := I1.hok.fresh (Nat.le_refl _)
    refine h h'.objs.size c' (upd H1 h'.objs.size (LamO h'.objs.size (X.env.qual ++ "<lambda>") params body scope (cloFrom X.env.cells scope.names []) dV c')) _ (I1.laid (t' := tk) (fun b u e => Heap.get?_push_of_some _ e) (Nat.le_refl _) ?_) (e1.trans (.of (Same.upd hn))) (t1.ext (Same.upd hn)) upd_same (Same.upd hn _ _ hc)
    exact ⟨⟨doc, pm, ctv, Heap.get?_push_size _ rfl⟩, ⟨_, Heap.get?_push_size _ rfl⟩, fun h1 h2 ⟨d, p, t, e⟩ st => ⟨d, p, t, st _ e⟩⟩
  cases hc : codeAmong pos ps.toList with
  | none =>
    refine PySem.W.kdv_makeTail (mg := X.mg) (c := c) (P := P) (ps := ps) (closure_ok hfree) I.ok.glob (I.mod.glob.keeps I.bk) hcode (TB.code.keeps I.bk) hP' ht hc TB.gP bP fun c' ctv doc h' tk hx hge hlt hrec htb => ?_
    obtain ⟨c2, oc, vs, t, e2, hoc, hd, hv⟩ := hrec
    cases e2
    have nC : H c' = none := I.hok.fresh hge
    have I1 := LamX.inv_table (t' := tk) (more := #[rawInt pos.line, rawInt pos.col, .ref c']) (h' := h') I hP (fun b o hb e => hx b o hb e) htb hge ⟨oc, vs, t, hoc, hd, hv⟩
    have hE : LamX.ExtN H (upd (upd H P (.tbl (ps ++ #[rawInt pos.line, rawInt pos.col, .ref c']))) c' (LamX.CodeO c' (X.env.qual ++ "<lambda>"))) := fun b o e n => by
      rw [upd_ne (ne_of_none e nC), upd_ne (fun z => n ps (Option.some.inj (e.symm.trans (by rw [z]; exact hP))))]
      exact e
    have eL : (ps ++ #[rawInt pos.line, rawInt pos.col, .ref c']).toList = ps.toList ++ [rawInt pos.line, rawInt pos.col, .ref c'] := by simp
    refine last I1 hE (fun p hp => ?_) upd_same
    by_cases hb : p.1 = P
    · rw [hu p hp hb, hb]
      refine ⟨_, by rw [upd_ne (ne_of_none hP nC), upd_same], by rw [eL]; exact PySem.TriplesOk_snoc _ _ _ _ ht, fun p' cv hcv => ?_⟩
      rw [eL] at hcv
      rcases LamX.among_app _ ht hcv with z | z
      · obtain ⟨c0, e1, e2⟩ := ha p' cv z
        exact ⟨c0, e1, hE _ _ e2 LamX.codeO_ne⟩
      · exact ⟨c', z, upd_same⟩
    · obtain ⟨ps', a1, a2, a3⟩ := hT p hp
      refine ⟨ps', by rw [upd_ne (ne_of_none a1 nC), upd_ne hb]; exact a1, a2, fun p' cv hcv => ?_⟩
      obtain ⟨c0, e1, e2⟩ := a3 p' cv hcv
      exact ⟨c0, e1, hE _ _ e2 LamX.codeO_ne⟩
  | some cv =>
    obtain ⟨c', e, hco⟩ := ha pos cv hc
    subst e
    refine PySem.W.kdv_makeTailHit (mg := X.mg) (c := c) (P := P) (ps := ps) (closure_ok hfree) I.ok.glob (I.mod.glob.keeps I.bk) hcode (TB.code.keeps I.bk) hP' ht hc bP fun ctv doc h' tk hx hsz => ?_
    exact last (I.kept hx) (.refl H) hT hco
/-- lambda: e, as a value -/
def tLamV (X : Cx) (T : List (Addr × Str)) (params : Arguments) (body : Expr) (scope : Scope) (dvs : List V) : TE := fun _ H Q => LamX.Tabs T H ∧ ∀ f c' H1, LamX.ExtN H H1 → LamX.Tabs T H1 → LamAt X H1 f c' params body scope dvs → Q (.ref f) H1
theorem pe_lam0 {T : List (Addr × Str)} {c P : Addr} {params : Arguments} {body : Expr} {scope : Scope} {pos : Pos} (TB : LamX.TabB X.base X.mg c P) (hcode : X.env.code = .ref c)
    (hm : (P, X.env.qual ++ "<lambda>") ∈ T) (hu : ∀ p ∈ T, p.1 = P → p.2 = X.env.qual ++ "<lambda>") (hfree : ∀ y ∈ scope.names, y.2 = .free → X.env.scope.names.lookup y.1 = some .cell ∨ X.env.scope.names.lookup y.1 = some .free) (hdef : defaultsOf params X.env = ([], [])) :
    PE X (.Lambda params body scope pos) (tLamV X T params body scope []) := by
  refine ⟨fun pins s σ H Q I h => ?_⟩
  obtain ⟨hT, h⟩ := h
  refine PySem.W.kla_eval hdef ?_
  rw [makeFunction_eq]
  simp only [List.zip_nil_right, List.filterMap_nil, List.isEmpty_nil, if_true, pure_bind]
  refine lam_tail I TB hcode hm hu hT (fun y hy e => ?_) fun f c' H1 s' I1 e1 t1 hf hc => ⟨.ref f, H1, I1, rfl, h f c' H1 e1 t1 ⟨.none, hf, hc, .inl ⟨rfl, rfl⟩⟩⟩
  rcases hfree y hy e with k | k
  · exact I.ok.has _ (.inl k)
  · exact I.ok.has _ (.inr k)
/-- .. with one default -/
theorem pe_lam1 {T : List (Addr × Str)} {c P : Addr} {params : Arguments} {d body : Expr} {i : Int} {scope : Scope} {pos : Pos} (TB : LamX.TabB X.base X.mg c P) (hcode : X.env.code = .ref c)
    (hm : (P, X.env.qual ++ "<lambda>") ∈ T) (hu : ∀ p ∈ T, p.1 = P → p.2 = X.env.qual ++ "<lambda>") (hfree : ∀ y ∈ scope.names, y.2 = .free → X.env.scope.names.lookup y.1 = some .cell ∨ X.env.scope.names.lookup y.1 = some .free)
    (hdef : params.defaults = [d]) (hk : params.kw_defaults = []) (hd : PE X d (fun _ H Q => Q (.int i) H)) :
    PE X (.Lambda params body scope pos) (tLamV X T params body scope [.int i]) := by
  refine ⟨fun pins s σ H Q I h => ?_⟩
  obtain ⟨hT, h⟩ := h
  refine PySem.W.kdv_lam (by rw [hdef]; rfl) hk ?_
  rw [hdef]
  refine PySem.W.kdv_all1 (thn (hd.run pins s σ H (fun v H1 => v = .int i ∧ H1 = H) I ⟨rfl, rfl⟩) fun u s1 ⟨v, H1, I1, r1, q1⟩ => ?_)
  obtain ⟨ev, eH⟩ := q1
  subst ev
  rw [eH] at I1
  refine PySem.W.kdv_all0 ?_
  rw [makeFunction_eq]
  simp only [List.zip_nil_right, List.filterMap_nil, List.isEmpty_nil, if_true, pure_bind, List.isEmpty_cons, Bool.false_eq_true, if_false]
  have hn : H s1.heap.objs.size = none := I1.hok.fresh (Nat.le_refl _)
  refine wpAny_bind (wpAny_newTextTuple ?_)
  have I2 : Inv X pins σ (upd H s1.heap.objs.size (.tup [.int i])) { s1 with heap := s1.heap.push { cls := .type "tuple", data := .seq [u].toArray } } := I1.laid (t' := s1.toks) (fun b u e => Heap.get?_push_of_some _ e) (Nat.le_refl _) ⟨by show 1 ≤ sizeLine; decide, [u], .cons r1 .nil, ⟨_, Heap.get?_push_size _ rfl, rfl, _, rfl⟩⟩
  refine lam_tail I2 TB hcode hm hu (hT.ext (Same.upd hn)) (fun y hy e => ?_) fun f c' H1 s' I1 e1 t1 hf hc => ⟨.ref f, H1, I1, rfl, h f c' H1 ((LamX.ExtN.of (Same.upd hn)).trans e1) t1 ⟨_, hf, hc, .inr ⟨by simp, _, rfl, e1 _ _ upd_same fun _ z => by cases z⟩⟩⟩
  rcases hfree y hy e with k | k
  · exact I2.ok.has _ (.inl k)
  · exact I2.ok.has _ (.inr k)
end
/-! ### calling one: where the maker's cells stand in the base -/
/-- no name of its own but parameters -/
structure LamP (N : List Str) (sc scope : Scope) (ps : List Str) : Prop where
  kind : scope.kind = .function
  co : scope.isCoroutine = false
  gen : scope.isGenerator = false
  own : ∀ y ∈ scope.names, y.2 ≠ .cell ∧ (y.2 = .local → y.1 ∉ N)
  free : ∀ y ∈ scope.names, y.2 = .free → sc.names.lookup y.1 = some .cell ∨ sc.names.lookup y.1 = some .free
  par : ∀ p ∈ ps, scope.names.lookup p = some .local
def lamPB (N : List Str) (sc scope : Scope) (ps : List Str) : Bool :=
  decide (scope.kind = .function) && !scope.isCoroutine && !scope.isGenerator && (scope.names.all fun y => !decide (y.2 = .cell) && (!decide (y.2 = .local) || decide (y.1 ∉ N)) && (!decide (y.2 = .free) || decide (sc.names.lookup y.1 = some .cell) || decide (sc.names.lookup y.1 = some .free))) &&
    ps.all fun p => decide (scope.names.lookup p = some .local)
theorem lamP_by {N : List Str} {sc scope : Scope} {ps : List Str} (h : lamPB N sc scope ps = true) : LamP N sc scope ps := by
  unfold lamPB at h
  simp only [Bool.and_eq_true, Bool.or_eq_true, Bool.not_eq_true', decide_eq_true_eq, decide_eq_false_iff_not, List.all_eq_true] at h
  obtain ⟨⟨⟨⟨h1, h2⟩, h3⟩, h4⟩, h5⟩ := h
  refine ⟨h1, h2, h3, fun y hy => ⟨(h4 y hy).1.1, fun e => ?_⟩, fun y hy e => ?_, h5⟩
  · rcases (h4 y hy).1.2 with z | z
    · exact absurd e z
    · exact z
  · rcases (h4 y hy).2 with (z | z) | z
    · exact absurd e z
    · exact .inl z
    · exact .inr z
/-- how its parameters are bound: all by defaults -/
def LamB (params : Arguments) (body : Expr) (scope : Scope) (ps : List Str) (dvs : List V) : Prop :=
  (dvs = [] ∧ ∀ (q : Str) (cl : List (Str × Addr)) (doc pm cv ctv : Value), bindArgs (PySem.W.kdv_fn "<lambda>" q params (.expr body) scope cl .none doc pm cv ctv) ⟨[], []⟩ = pure []) ∨
  (dvs ≠ [] ∧ dvs.length = ps.length ∧ ∀ (q : Str) (cl : List (Str × Addr)) (t : Addr) (doc pm cv ctv : Value) (its : List Value), its.length = ps.length →
    ∃ k, bindArgs (PySem.W.kdv_fn "<lambda>" q params (.expr body) scope cl (.ref t) doc pm cv ctv) ⟨[], []⟩ = seqItems? (.ref t) >>= k ∧ k (some its.toArray) = pure (ps.zip its))
/-- f may be called without arguments wherever base stands -/
def CallB (P : Program) (w : World) (K : PySem.W.Frag) (mg : Str → Option Value) (base : Heap) (k : Nat) (f : Addr) (tl : XK → Hp → VK → Prop) : Prop :=
  ∀ (A : Around) (outer : List Env) (s : Shared) (H : Hp) (Q : VK) (E : XK), Room k A → Env0 P w K mg base A outer s H → tl E H Q →
    PySem.W.FnAt f s.heap ∧ codeAny (model P w) A (.call (.ref f) ⟨[], []⟩) (CR (L2.CX P w) outer P w H s Q E) s
/-- what the maker of lambdas tells of a base -/
def LamsOk (X : Cx) (σ : L2.St) (base' : Heap) : Prop :=
  Mod X.K X.mg base' ∧ ∀ {params : Arguments} {body : Expr} {scope : Scope} {ps : List Str} {dvs : List V} {k : Nat} {t : XK → TE} {f c' : Addr}, LamP X.N X.env.scope scope ps → LamB params body scope ps dvs →
    (∀ (A : Around) (outer : List Env) (s : Shared) (H : Hp) (E : XK), Room k (A.deeper (LamX.lamEnv X scope s.heap.objs.size f c')) → PE (LamX.lamCx X A outer s H E scope f c') body (t E)) →
    CallB X.prog X.w X.K X.mg base' (k + 1) f fun E HZ Q => LamAt X HZ f c' params body scope dvs ∧ t E σ HZ Q
section
variable {X : Cx} {pins : List (Addr × Obj)} {σ : L2.St} {H : Hp} {s : Shared}
/-- all that isn't tracked and is no frame -/
def bigB (X : Cx) (H : Hp) (h : Heap) : Heap := PySem.W.hideAll (hidT h H) (frs X.stack)
theorem bigB_get {b : Addr} {o : Obj} (e : s.heap.get? b = some o) (n : H b = none) (f : b ∉ frs X.stack) : (bigB X H s.heap).get? b = some o := PySem.W.hideAll_get _ (hidT_get e n) f
theorem of_bigB {b : Addr} {o : Obj} (e : (bigB X H s.heap).get? b = some o) : s.heap.get? b = some o ∧ H b = none := of_hidT (PySem.W.of_hideAll _ e)
theorem bigB_sub (I : Inv X pins σ H s) {b : Addr} {o : Obj} (e : X.base.get? b = some o) : (bigB X H s.heap).get? b = some o :=
  bigB_get (I.bs b o e).1 (I.bs b o e).2 fun z => by
    have := (Heap.FunFrames.mem I.stack z).1
    rw [e] at this
    cases this
theorem bigB_size : (bigB X H s.heap).objs.size = s.heap.objs.size := (PySem.W.hideAll_size _ _).trans (hidT_size _ _)
theorem funs_to {h b1 b2 : Heap} : ∀ {l : List Env}, h.FunFrames b1 l → (∀ L ∈ frs l, b2.get? L = none) → h.FunFrames b2 l
  | [], _, _ => trivial
  | env :: r, ⟨hk, ⟨L, o, hf, hn, ho, hd⟩, hr⟩, g => by
    have m : ∀ b ∈ frs r, b ∈ frs (env :: r) := fun b hb => by
      unfold frs at hb ⊢
      rw [List.filterMap_cons, hf]
      exact List.mem_cons_of_mem _ hb
    refine ⟨hk, ⟨L, o, hf, g L ?_, ho, hd⟩, funs_to hr fun b hb => g b (m b hb)⟩
    unfold frs
    rw [List.filterMap_cons, hf]
    exact List.mem_cons_self
theorem bigB_env0 (I : Inv X pins σ H s) : Mod X.K X.mg (bigB X H s.heap) ∧ Env0 X.prog X.w X.K X.mg (bigB X H s.heap) X.A X.stack s H := by
  have k : ∀ b o, X.base.get? b = some o → (bigB X H s.heap).get? b = some o := fun b o e => bigB_sub I e
  obtain ⟨mb, h1, h2⟩ := I.mod.blt
  have M : Mod X.K X.mg (bigB X H s.heap) := ⟨I.mod.kin.keeps k, I.mod.glob.keeps k, ⟨mb, h1.keeps k, h2⟩, I.mod.nolimit.keeps k⟩
  exact ⟨M, I.ok.frames, M, fun b o e => of_bigB e, Nat.le_of_eq bigB_size, funs_to I.stack fun b hb => PySem.W.hideAll_none _ hb, I.stkFree, I.hok, I.bare⟩
theorem lam_startB {A : Around} {outer : List Env} {E : XK} {scope : Scope} {f c' : Addr} {h₁ : Heap} {tk : Nat} {ps : List Str} {its : List Value} {s1 : Shared} {HZ : Hp} (I : Inv X pins σ H s) (hfn : ∀ x, X.fn x = true) (L : LamP X.N X.env.scope scope ps)
    (e0 : Env0 X.prog X.w X.K X.mg (bigB X H s.heap) A outer s1 HZ) (hd : A.handled = none)
    (hns : h₁.Ns s1.heap.objs.size fun y => (ps.zip its).reverse.lookup y) (kp : ∀ b o, s1.heap.get? b = some o → h₁.get? b = some o) :
    Inv (LamX.lamCx X A outer s1 HZ E scope f c') [] σ HZ { s1 with heap := h₁, toks := tk } := by
  have hfree : ∀ y ∈ scope.names, y.2 = .free → ∃ c, X.env.cells.lookup y.1 = some c := fun y hy e => by
    rcases L.free y hy e with k | k
    · exact I.ok.has _ (.inl k)
    · exact I.ok.has _ (.inr k)
  have cm : ∀ {y c}, (cloFrom X.env.cells scope.names []).lookup y = some c → X.env.cells.lookup y = some c := fun {y c} e => by
    rcases cloFrom_mem (PySem.mem_of_lookup e) with hm | ⟨h1, h2⟩
    · cases hm
    · obtain ⟨c1, hc⟩ := hfree _ h1 rfl
      have hc : X.env.cells.lookup y = some c1 := hc
      have e2 : c = c1 := by
        rw [h2, hc] <;> rfl
      rw [e2]
      exact hc
  have look : ∀ {y}, scope.names.lookup y = some .free → ∃ c, (cloFrom X.env.cells scope.names []).lookup y = some c := fun {y} hl => mem_lookup (cloFrom_has (cells := X.env.cells) (acc := []) (PySem.mem_of_lookup hl))
  -- a cell stands in the base
  have cellB : ∀ {y c o}, X.env.cells.lookup y = some c → s.heap.get? c = some o → s1.heap.get? c = some o ∧ HZ c = none := fun {y c o} e ho => by
    refine e0.bs c o (bigB_get ho (I.freeC y c e) fun z => ?_)
    rcases List.mem_cons.mp (I.stkSub c z) with z | z
    · exact I.cne y c e z
    · obtain ⟨_, o', ho', _⟩ := I.ok.funs.mem z
      exact absurd (Nat.lt_of_lt_of_le (Heap.lt_size ho') (I.ok.cab y c (hfn y) e)) (Nat.lt_irrefl _)
  have cellK : ∀ {y c} {v : Option Value}, X.env.cells.lookup y = some c → s.heap.IsCell c v → h₁.IsCell c v := fun {y c v} e ⟨o, ho, hdt⟩ => ⟨o, kp _ _ (cellB e ho).1, hdt⟩
  have noA : ∀ b : Addr, b ∉ (LamX.lamCx X A outer s1 HZ E scope f c').ex := fun b z => absurd (show b ∈ ([] : List Addr) from z) (by simp)
  refine ⟨⟨I.mod, L.kind, rfl, rfl, Nat.le_refl _, fun y z c e1 e2 => I.ok.inj y z c (cm e1) (cm e2), fun y hy => ?_, fun y c z _ => ?_, fun _ => hd, Around.frames_deeper e0.frames, .inr ⟨rfl, rfl⟩, fun b z => absurd z (noA b), fun b o e => e0.bs b o (bigB_sub I e), ?_, fun b _ _ => noA b,
      fun b z => absurd z (noA b), funs_to e0.funs fun b hb => ?_, e0.frf⟩,
    rfl, e0.bare, Un.kept kp, ⟨_, hns, fun i y v e1 e2 e3 => ?_⟩, fun y c e => ?_, e0.hok.fresh (Nat.le_refl _), fun y c e => ?_, fun q hq => absurd (show q ∈ ([] : List (Addr × Obj)) ++ [] from hq) (by simp), e0.hok.kept kp, I.len⟩
  · have hy : scope.names.lookup y = some .cell ∨ scope.names.lookup y = some .free := hy
    rcases hy with hy | hy
    · exact absurd rfl (L.own _ (PySem.mem_of_lookup hy)).1
    · exact look hy
  · have z : false = true := z
    cases z
  · exact Nat.le_trans (Nat.le_trans I.ok.bsz I.sz) (Nat.le_trans (Nat.le_of_eq bigB_size.symm) e0.bsz)
  · cases q : X.base.get? b with
    | none => exact q
    | some o =>
      have := (Heap.FunFrames.mem e0.funs hb).1
      rw [bigB_sub I q] at this
      cases this
  · have e3 : Vis scope y := e3
    have e1 : X.N[i]? = some y := e1
    rcases e3 with k | k | k
    · exact absurd (List.mem_of_getElem? e1) ((L.own _ (PySem.mem_of_lookup k)).2 rfl)
    · exact absurd rfl (L.own _ (PySem.mem_of_lookup k)).1
    · obtain ⟨m, hn, hl⟩ := I.loc
      have hvis : Vis X.env.scope y := (L.free _ (PySem.mem_of_lookup k) rfl).elim (fun k => .inr (.inl k)) (fun k => .inr (.inr k))
      obtain ⟨w', r, q⟩ := hl i y v e1 e2 hvis
      obtain ⟨c2, h2⟩ := look k
      refine ⟨w', r, .inr ⟨.inr k, c2, h2, ?_⟩⟩
      have c1 := cm h2
      rcases q with ⟨k', _⟩ | ⟨_, c3, e', z⟩
      · have k' : X.env.scope.names.lookup y = some .local := k'
        rcases L.free _ (PySem.mem_of_lookup k) rfl with k2 | k2 <;> rw [show X.env.scope.names.lookup y = _ from k2] at k' <;> cases k'
      · rw [c1] at e'
        cases e'
        exact cellK c1 z
  · obtain ⟨w', z⟩ := I.cell y c (cm e)
    exact ⟨w', cellK (cm e) z⟩
  · obtain ⟨v, o, ho, hdt⟩ := I.cell y c (cm e)
    exact (cellB (cm e) ho).2
theorem lams_ok (I : Inv X pins σ H s) (hfn : ∀ x, X.fn x = true) : LamsOk X σ (bigB X H s.heap) := by
  refine ⟨(bigB_env0 I).1, fun {params body scope ps dvs k t f c'} L B hbody A outer s1 HZ Q E hr e0 h => ?_⟩
  obtain ⟨⟨dV, hf, hc, hdv⟩, ht⟩ := h
  obtain ⟨⟨doc, pm, ctv, of1⟩, _, _⟩ := e0.hok f _ hf
  obtain ⟨⟨oc, vs, tk, hoc, hdc, hvc⟩, _, _⟩ := e0.hok c' _ hc
  have hb : ∃ its : List Value, (∀ y ∈ ps.zip its, scope.names.lookup y.1 = some .local) ∧ BindsTo s1 (PySem.W.kdv_fn "<lambda>" (X.env.qual ++ "<lambda>") params (.expr body) scope (cloFrom X.env.cells scope.names []) dV doc pm (.ref c') ctv) ⟨[], []⟩ (ps.zip its) := by
    have pz : ∀ {its : List Value}, ∀ y ∈ ps.zip its, scope.names.lookup y.1 = some .local := fun {its} ⟨a, b⟩ hy => L.par _ (List.of_mem_zip hy).1
    rcases B with ⟨e, hb⟩ | ⟨hne, hl, hb⟩
    · rcases hdv with ⟨_, z⟩ | ⟨z, _⟩
      · refine ⟨[], pz, ?_⟩
        rw [z, List.zip_nil_right]
        exact .of_eq (hb _ _ _ _ _ _)
      · exact absurd e z
    · rcases hdv with ⟨z, z2⟩ | ⟨_, tp, z, htp⟩
      · exact absurd z hne
      · obtain ⟨_, its, rv, ot, h1, h2, n, h3⟩ := e0.hok tp _ htp
        obtain ⟨k, e1, e2⟩ := hb (X.env.qual ++ "<lambda>") (cloFrom X.env.cells scope.names []) tp doc pm (.ref c') ctv its (rv.length.symm.trans hl)
        refine ⟨its, pz, ?_⟩
        rw [z]
        exact .of_defaults rfl h1 h3 e1 e2
  obtain ⟨its, hloc, hbt⟩ := hb
  refine ⟨⟨_, _, _, _, of1⟩, PySem.W.kla_callFunE hr.depth of1 rfl L.co L.gen rfl ⟨c', oc, vs, tk, rfl, hoc, hdc, hvc⟩ (hbt _ _ _ _ (wpAny_newFunctionEnv (fun y hy => (L.own y hy).1) hloc (fun h₁ hns hsb => ⟨((I.mod.nolimit.keeps fun b o e => (e0.bs b o (bigB_sub I e)).1)).fresh _ hsb, ?_⟩) L.kind))⟩
  show codeAny _ _ (.expr body (LamX.lamEnv X scope s1.heap.objs.size f c')) _ _
  have kp : ∀ b o, s1.heap.get? b = some o → h₁.get? b = some o := fun b o e => hsb.extBut b o (Nat.ne_of_lt (Heap.lt_size e)) (Heap.get?_push_of_some _ e)
  have J := lam_startB (E := E) (f := f) (c' := c') (tk := s1.toks + (ps.zip its).length) I hfn L e0 hr.hd hns kp
  refine PySem.W.kla_codeExpr (wpAny_mono ((hbody A outer s1 HZ E (hr.deeper _)).run [] _ _ HZ Q J ht) (fun v s' hq => ?_) fun e s' hq => hq)
  obtain ⟨w', H', J', rv, q⟩ := hq
  exact ⟨w', H', J'.os, J'.bare, J'.base, J'.hok, rv, q⟩
end
end K3

set_option Elab.async false
set_option linter.all false
set_option maxRecDepth 100000
set_option maxHeartbeats 4000000
/-! KY: the name of a refusal's class; what is told, or the refusal -/
namespace K3
open PySem PySem.Spec PyProof.Rows L2
structure TxtE (mg : Str → Option Value) : Prop where
  b_ValueError : mg "ValueError" = none
def cnms : List Str := ["BadNumber", "BadValues", "NoForm", "BadPrices", "BadKinds", "BadRows", "BadCondition", "BadColumn", "BadHeap", "TooMany", "BadBlock", "Stopped", "BadText"]
def cnm (i : Nat) : Str := cnms.getD i Str.empty
/-- the classes of refusals: theirs is at cs i, ColumnError at CE -/
structure Kinds (K : PySem.W.Frag) (mg : Str → Option Value) (cs : Nat → Addr) (CE : Addr) : Prop where
  g : ∀ i, i < 13 → mg (cnm i) = some (.ref (cs i))
  c : ∀ i, i < 13 → L2.ExcC K (cs i)
  k : ∀ i j, i < 13 → j < 13 → PySem.W.kitOne K (.ref (cs i)) (.ref (cs j)) = some (decide (i = j))
  v : ∀ i, i < 13 → PySem.W.kitOne K (.ref (cs i)) (.type "ValueError") = some true
  m : ∀ i, i < 13 → PySem.W.exmOne K (.ref (cs i)) (.ref CE) = some true
  ge : mg "ColumnError" = some (.ref CE)
  xf : ∀ i, i = 1 ∨ i = 5 ∨ i = 12 → XfC K (cs i) ∧ PySem.W.findIn K (.ref (cs i)) "place" = some none
def kb (i n : Nat) : List V := (List.range n).map fun j => V.bl (decide (i = j))
theorem kb_flat (i n : Nat) : (kb i n).all flatV = true := by
  unfold kb
  rw [List.all_map]
  exact List.all_eq_true.mpr fun _ _ => rfl
theorem kb_at {i j n : Nat} (h : j < n) : (kb i n)[j]? = some (.bl (decide (i = j))) := by
  unfold kb
  rw [List.getElem?_map, List.getElem?_range h]
  rfl
theorem kb_count : ∀ i, i < 13 → (kb i 13).countP (fun z => eqV z (.bl true)) = 1 := by decide
theorem cnm_at : ∀ {i : Nat}, i < 13 → (cnms.map V.str)[i]? = some (.str (cnm i)) := fun {i} h => by
  unfold cnm
  have hl : i < cnms.length := h
  rw [List.getElem?_map, List.getD_eq_getElem?_getD, List.getElem?_eq_getElem hl]
  rfl
section
variable {P : Program} {w : World} {K : PySem.W.Frag} {mg : Str → Option Value} {base : Heap}
abbrev s__law_class : Stmt := top 25
abbrev N__law_class : List Str := ["_law_e", "_law_kinds", "_law_words"]
abbrev P__law_class : List Str := ["_law_e"]
theorem sc__law_class : FnScope N__law_class P__law_class (defScope s__law_class) := ⟨rfl, rfl, rfl, by decide +kernel, rfl, by decide +kernel, by decide +kernel⟩
def spClass (K : PySem.W.Frag) (cs : Nat → Addr) : Addr × Obj → Sp := fun p vs H Q _ => ∃ (i : Nat) (d : Option Addr), i < 13 ∧ vs = [.ref p.1] ∧ Zc (.ref (cs i)) d p.2 ∧ (∃ fl, p.2.data = .fields fl) ∧ (∀ dd, d = some dd → ∃ fs, H dd = some (.xd fs)) ∧ ∀ H', Same H H' → Q (.str (cnm i)) H'
theorem ok_class {cs : Nat → Addr} {CE : Addr} (T : Txt mg) (TE : TxtE mg) (KS : Kinds K mg cs CE) (D : Df K mg "_law_class" s__law_class P__law_class) : Fnp P w K mg base CX0 1 "_law_class" P__law_class (spClass K cs) := by
  refine D.okP sc__law_class (fun p vs H Q E h => ?_) (fun f cdv A outer s H vs Q E p hr h => ?_)
  · obtain ⟨i, d, _, rfl, _⟩ := h
    rfl
  · obtain ⟨i, d, hi, rfl, hz, hf, hd, k⟩ := h
    have nd := sc__law_class.nd
    have keep : ∀ {H1}, Same H H1 → ∀ dd, d = some dd → ∃ fs, H1 dd = some (.xd fs) := fun {H1} s dd e => by
      obtain ⟨fs, h⟩ := hd dd e
      exact ⟨fs, s _ _ h⟩
    refine ⟨_, (pss_cons (ps_set (i := 1) nd rfl (by first | exact Or.inl rfl | exact Or.inr rfl) (pe_lst (pa_cons (pe_callB (call_isP List.mem_cons_self (KS.c i hi) hz hf) (by rfl) T.b_isinstance (by decide +kernel) (pa_cons (pv 0) (pa_cons (pe_glob (v := .ref (cs 0)) (by rfl) (KS.g 0 (by decide)) rfl) pa_nil))) (pa_cons (pe_callB (call_isP List.mem_cons_self (KS.c i hi) hz hf) (by rfl) T.b_isinstance (by decide +kernel) (pa_cons (pv 0) (pa_cons (pe_glob (v := .ref (cs 1)) (by rfl) (KS.g 1 (by decide)) rfl) pa_nil))) (pa_cons (pe_callB (call_isP List.mem_cons_self (KS.c i hi) hz hf) (by rfl) T.b_isinstance (by decide +kernel) (pa_cons (pv 0) (pa_cons (pe_glob (v := .ref (cs 2)) (by rfl) (KS.g 2 (by decide)) rfl) pa_nil))) (pa_cons (pe_callB (call_isP List.mem_cons_self (KS.c i hi) hz hf) (by rfl) T.b_isinstance (by decide +kernel) (pa_cons (pv 0) (pa_cons (pe_glob (v := .ref (cs 3)) (by rfl) (KS.g 3 (by decide)) rfl) pa_nil))) pa_nil))))))
  (pss_cons (ps_set (i := 1) nd rfl (by first | exact Or.inl rfl | exact Or.inr rfl) (pe_op op_cat (pv 1) (pe_lst (pa_cons (pe_callB (call_isP List.mem_cons_self (KS.c i hi) hz hf) (by rfl) T.b_isinstance (by decide +kernel) (pa_cons (pv 0) (pa_cons (pe_glob (v := .ref (cs 4)) (by rfl) (KS.g 4 (by decide)) rfl) pa_nil))) (pa_cons (pe_callB (call_isP List.mem_cons_self (KS.c i hi) hz hf) (by rfl) T.b_isinstance (by decide +kernel) (pa_cons (pv 0) (pa_cons (pe_glob (v := .ref (cs 5)) (by rfl) (KS.g 5 (by decide)) rfl) pa_nil))) (pa_cons (pe_callB (call_isP List.mem_cons_self (KS.c i hi) hz hf) (by rfl) T.b_isinstance (by decide +kernel) (pa_cons (pv 0) (pa_cons (pe_glob (v := .ref (cs 6)) (by rfl) (KS.g 6 (by decide)) rfl) pa_nil))) pa_nil))))))
  (pss_cons (ps_set (i := 1) nd rfl (by first | exact Or.inl rfl | exact Or.inr rfl) (pe_op op_cat (pv 1) (pe_lst (pa_cons (pe_callB (call_isP List.mem_cons_self (KS.c i hi) hz hf) (by rfl) T.b_isinstance (by decide +kernel) (pa_cons (pv 0) (pa_cons (pe_glob (v := .ref (cs 7)) (by rfl) (KS.g 7 (by decide)) rfl) pa_nil))) (pa_cons (pe_callB (call_isP List.mem_cons_self (KS.c i hi) hz hf) (by rfl) T.b_isinstance (by decide +kernel) (pa_cons (pv 0) (pa_cons (pe_glob (v := .ref (cs 8)) (by rfl) (KS.g 8 (by decide)) rfl) pa_nil))) (pa_cons (pe_callB (call_isP List.mem_cons_self (KS.c i hi) hz hf) (by rfl) T.b_isinstance (by decide +kernel) (pa_cons (pv 0) (pa_cons (pe_glob (v := .ref (cs 9)) (by rfl) (KS.g 9 (by decide)) rfl) pa_nil))) (pa_cons (pe_callB (call_isP List.mem_cons_self (KS.c i hi) hz hf) (by rfl) T.b_isinstance (by decide +kernel) (pa_cons (pv 0) (pa_cons (pe_glob (v := .ref (cs 10)) (by rfl) (KS.g 10 (by decide)) rfl) pa_nil))) pa_nil)))))))
  (pss_cons (ps_set (i := 1) nd rfl (by first | exact Or.inl rfl | exact Or.inr rfl) (pe_op op_cat (pv 1) (pe_lst (pa_cons (pe_callB (call_isP List.mem_cons_self (KS.c i hi) hz hf) (by rfl) T.b_isinstance (by decide +kernel) (pa_cons (pv 0) (pa_cons (pe_glob (v := .ref (cs 11)) (by rfl) (KS.g 11 (by decide)) rfl) pa_nil))) (pa_cons (pe_callB (call_isP List.mem_cons_self (KS.c i hi) hz hf) (by rfl) T.b_isinstance (by decide +kernel) (pa_cons (pv 0) (pa_cons (pe_glob (v := .ref (cs 12)) (by rfl) (KS.g 12 (by decide)) rfl) pa_nil))) pa_nil)))))
  (pss_cons (ps_set (i := 2) nd rfl (by first | exact Or.inl rfl | exact Or.inr rfl) (pe_lst (pa_cons pe_str (pa_cons pe_str (pa_cons pe_str (pa_cons pe_str (pa_cons pe_str (pa_cons pe_str (pa_cons pe_str (pa_cons pe_str pa_nil))))))))))
  (pss_cons (ps_set (i := 2) nd rfl (by first | exact Or.inl rfl | exact Or.inr rfl) (pe_op op_cat (pv 2) (pe_lst (pa_cons pe_str (pa_cons pe_str (pa_cons pe_str (pa_cons pe_str (pa_cons pe_str pa_nil))))))))
  (pss_one (ps_ret (pe_ifExp (PW.pt (pw_and (pt_cmpR op_eq (pe_bm PySem.F.plainAttrs_list PySem.F.slot_list_count PySem.F.type_list_count mt_lcountV (pv 1) (pa_cons pe_bl pa_nil)) pe_int (nomark _)) (pw_and1 (pt_val (pe_callB (call_isP List.mem_cons_self (KS.c i hi) hz hf) (by rfl) T.b_isinstance (by decide +kernel) (pa_cons (pv 0) (pa_cons (pe_bltn (v := .ty "ValueError") (by rfl) TE.b_ValueError (by decide +kernel) rfl) pa_nil))))))) (pe_ix ix_list (pv 2) (pe_bm PySem.F.plainAttrs_list PySem.F.slot_list_index PySem.F.type_list_index mt_index (pv 1) (pa_cons pe_bl pa_nil)) (fun _ _ => rfl)) pe_str))))))))), ?_⟩
    refine ⟨_, rfl, .ref (cs 0), .ref (cs 0), _, rfl, (fun _ r => r), KS.k i 0 hi (by decide), keep (Same.refl H), _, rfl, .ref (cs 1), .ref (cs 1), _, rfl, (fun _ r => r), KS.k i 1 hi (by decide), keep (Same.refl H), _, rfl, .ref (cs 2), .ref (cs 2), _, rfl, (fun _ r => r), KS.k i 2 hi (by decide), keep (Same.refl H), _, rfl, .ref (cs 3), .ref (cs 3), _, rfl, (fun _ r => r), KS.k i 3 hi (by decide), keep (Same.refl H), (by show 4 ≤ sizeLine; decide), fun l1 n1 => ?_⟩
    suffices hh : ∀ H1, Same H H1 → H1 l1 = some (.lst (kb i 4)) → _ from hh _ (Same.upd n1) upd_same
    intro H1 s1 h1
    refine ⟨_, rfl, _, rfl, .ref (cs 4), .ref (cs 4), _, rfl, (fun _ r => r), KS.k i 4 hi (by decide), keep s1, _, rfl, .ref (cs 5), .ref (cs 5), _, rfl, (fun _ r => r), KS.k i 5 hi (by decide), keep s1, _, rfl, .ref (cs 6), .ref (cs 6), _, rfl, (fun _ r => r), KS.k i 6 hi (by decide), keep s1, (by show 3 ≤ sizeLine; decide), fun l2 n2 => ?_⟩
    refine ⟨l1, l2, _, _, rfl, rfl, Same.upd n2 _ _ h1, upd_same, (by show 4 + 3 ≤ sizeLine; decide), fun r2 nr2 => ?_⟩
    suffices hh : ∀ H2, Same H H2 → H2 r2 = some (.lst (kb i 7)) → _ from hh _ ((s1.upd' n2).upd' nr2) upd_same
    intro H2 s2 h2
    refine ⟨_, rfl, _, rfl, .ref (cs 7), .ref (cs 7), _, rfl, (fun _ r => r), KS.k i 7 hi (by decide), keep s2, _, rfl, .ref (cs 8), .ref (cs 8), _, rfl, (fun _ r => r), KS.k i 8 hi (by decide), keep s2, _, rfl, .ref (cs 9), .ref (cs 9), _, rfl, (fun _ r => r), KS.k i 9 hi (by decide), keep s2, _, rfl, .ref (cs 10), .ref (cs 10), _, rfl, (fun _ r => r), KS.k i 10 hi (by decide), keep s2, (by show 4 ≤ sizeLine; decide), fun l3 n3 => ?_⟩
    refine ⟨r2, l3, _, _, rfl, rfl, Same.upd n3 _ _ h2, upd_same, (by show 7 + 4 ≤ sizeLine; decide), fun r3 nr3 => ?_⟩
    suffices hh : ∀ H3, Same H H3 → H3 r3 = some (.lst (kb i 11)) → _ from hh _ ((s2.upd' n3).upd' nr3) upd_same
    intro H3 s3 h3
    refine ⟨_, rfl, _, rfl, .ref (cs 11), .ref (cs 11), _, rfl, (fun _ r => r), KS.k i 11 hi (by decide), keep s3, _, rfl, .ref (cs 12), .ref (cs 12), _, rfl, (fun _ r => r), KS.k i 12 hi (by decide), keep s3, (by show 2 ≤ sizeLine; decide), fun l4 n4 => ?_⟩
    refine ⟨r3, l4, _, _, rfl, rfl, Same.upd n4 _ _ h3, upd_same, (by show 11 + 2 ≤ sizeLine; decide), fun r4 nr4 => ?_⟩
    suffices hh : ∀ H4, Same H H4 → H4 r4 = some (.lst (kb i 13)) → _ from hh _ ((s3.upd' n4).upd' nr4) upd_same
    intro H4 s4 h4
    refine ⟨(by show 8 ≤ sizeLine; decide), fun w1 nw1 => ?_⟩
    refine ⟨_, rfl, (by show 5 ≤ sizeLine; decide), fun w2 nw2 => ?_⟩
    refine ⟨w1, w2, _, _, rfl, rfl, Same.upd nw2 _ _ upd_same, upd_same, (by show 8 + 5 ≤ sizeLine; decide), fun w3 nw3 => ?_⟩
    suffices hh : ∀ H5, Same H H5 → H5 r4 = some (.lst (kb i 13)) → H5 w3 = some (.lst (cnms.map V.str)) → _ from hh _ (((s4.upd' nw1).upd' nw2).upd' nw3) (Same.upd nw3 _ _ (Same.upd nw2 _ _ (Same.upd nw1 _ _ h4))) upd_same
    intro H5 s5 h5 hw5
    refine ⟨_, rfl, .inl ⟨rfl, _, SqL.of h5⟩, r4, _, _, rfl, rfl, SqL.of h5, rfl, kb_flat i 13, ?_⟩
    rw [kb_count i hi]
    refine ⟨rfl, _, rfl, ?_⟩
    refine ite2 (fun _ => ?_) (fun c => absurd rfl c)
    refine ⟨_, rfl, .ty "ValueError", .type "ValueError", _, rfl, (fun _ r => r), KS.v i hi, keep s5, _, rfl, ?_⟩
    refine ite2 (fun _ => ?_) (fun c => absurd rfl c)
    refine ⟨_, rfl, _, rfl, .inl ⟨rfl, _, SqL.of h5⟩, r4, kb i 13, .bl true, i, .bl true, rfl, rfl, SqL.of h5, rfl, kb_flat i 13, ?_, rfl, fun m z hm hz => ?_, ?_⟩
    · rw [kb_at hi, decide_eq_true rfl]
    · rw [kb_at (by omega)] at hz
      obtain rfl := Option.some.inj hz
      rw [decide_eq_false (by omega)]
      rfl
    · exact ⟨w3, _, _, _, rfl, rfl, SqL.of hw5, atI_nat (cnm_at hi), k _ s5⟩
end
end K3

set_option Elab.async false
set_option linter.all false
set_option maxRecDepth 100000
set_option maxHeartbeats 4000000
/-! KZ: what a lambda tells, or its refusal -/
namespace K3
open PySem PySem.Spec PyProof.Rows L2
theorem _root_.L2.PE.imp {X : Cx} {e : Expr} {t t' : TE} (h : PE X e t) (m : ∀ σ H Q, t' σ H Q → t σ H Q) : PE X e t' := ⟨fun pins s σ H Q I q => h.run pins s σ H Q I (m _ _ _ q)⟩
theorem op_in_seqK {X : Cx} {K : PySem.W.Frag} (e : X.K = K) : OpR X (compareOp .In) (rIn K false) := by
  subst e
  exact op_in_seq
def tClass (cs : Nat → Addr) (a : Addr) (cls : Value) (d : Option Addr) : TE := fun σ H Q => ∃ i, σ[1]? = some (some (.ref a)) ∧ i < 13 ∧ cls = .ref (cs i) ∧ (∀ dd, d = some dd → ∃ fs, H dd = some (.xd fs)) ∧ ∀ H', Same H H' → Q (.str (cnm i)) H'
/-- a refusal as the law tells it: its class's name, its place or 0 -/
def Told (cs : Nat → Addr) (cls : Value) (d : Option Addr) (H' : Hp) (Q : VK) : Prop := ∃ (i : Nat) (pl : Int), i < 13 ∧ cls = .ref (cs i) ∧
  ((i ≠ 1 ∧ i ≠ 5 ∧ i ≠ 12 ∧ d = none ∧ pl = 0) ∨ ((i = 1 ∨ i = 5 ∨ i = 12) ∧ ∃ dd fs, d = some dd ∧ H' dd = some (.xd fs) ∧ fs.lookup ("place" : Str) = some (V.int pl))) ∧
  ∀ (H'' : Hp) (t : Addr), Same H' H'' → H' t = none → H'' t = some (.tup [.str (cnm i), .int pl]) → Q (.ref t) H''
def TTd (cs : Nat → Addr) : (XK → Hp → VK → Prop) → Hp → VK → Prop := fun tl H Q => ∀ E : XK, (∀ cls d H', Told cs cls d H' Q → E cls d H') → tl E H Q
theorem place_in : ∀ {i : Nat}, i < 13 → inV (.str (cnm i)) [V.str "BadValues", V.str "BadRows", V.str "BadText"] = decide (i = 1 ∨ i = 5 ∨ i = 12) := by decide
abbrev s__law_told : Stmt := top 26
abbrev N__law_told : List Str := ["_law_work", "_law_e", "_law_word"]
abbrev P__law_told : List Str := ["_law_work"]
theorem sc__law_told : FnScope N__law_told P__law_told (defScope s__law_told) := ⟨rfl, rfl, rfl, by decide +kernel, rfl, by decide +kernel, by decide +kernel⟩
theorem told_gives {X : Cx} {k : Nat} {cs : Nat → Addr} {CE : Addr} {g : Addr} {cdg : Value} {q : Str} (KS : Kinds X.K X.mg cs CE) (G_class : Fnp X.prog X.w X.K X.mg X.base CX0 1 "_law_class" P__law_class (spClass X.K cs)) :
    GivesR X N__law_told "_law_told" (defScope s__law_told) g cdg (defBody s__law_told) "_law_work" q (k + 1) (TTd cs) := by
  intro f c' s H Q tl hr act hc h
  have nd := sc__law_told.nd
  have hrS : ∀ a, L2H.RoomH 1 (((cxOf C8.CX0 X.prog X.w X.K X.mg X.base N__law_told "_law_told" (defScope s__law_told) g cdg X.A X.stack s H C8.E0).nox).suite a []).A := fun a => ⟨(hr.mono (by omega : 1 ≤ k + 1)).dp, (hr.mono (by omega : 1 ≤ k + 1)).un⟩
  refine ⟨_, (pss_one (ps_try_as (i := 1) (c := .ref CE) (n := "_law_e") (Wout := fun _ _ _ _ => False) rfl rfl nd rfl rfl ⟨rfl, by decide, .inl KS.ge⟩ takes0 (fun W pn xe tk _ => pss_one (ps_ret (act W pn xe _ _ tk))) (fun a oe cls d pn hz hf => pss_cons (ps_set (i := 2) nd rfl (Or.inl rfl) (PE.imp (t' := tClass cs a cls d) (pe_cP (E := fun _ => C8.E0) G_class (hrS a) List.mem_cons_self (fun _ _ _ _ _ _ _ h => h.elim) (pa_cons (pv 1) pa_nil)) (fun σ H Q ⟨i, hs, hi, hc, hd, k⟩ => ⟨.ref a, hs, i, d, hi, rfl, by rw [← hc]; exact hz, hf, hd, k⟩))) (pss_one (ps_ret (pe_tup (pa_cons (pv 2) (pa_cons (pe_ifExp (pt_cmpR (op_in_seqK (K := X.K) rfl) (pv 2) (pe_tup (pa_cons pe_str (pa_cons pe_str (pa_cons pe_str pa_nil)))) (by rfl)) (pe_xfA hz hf (pv 1)) pe_int) pa_nil)))))))), ?_⟩
  refine ⟨rfl, hc, h _ fun cls d H' ⟨i, pl, hi, ec, hd, k⟩ => ?_⟩
  subst ec
  refine ⟨true, KS.m i hi, fun _ a na => ?_, fun z => Bool.noConfusion z⟩
  have keep : ∀ dd, d = some dd → ∃ fs, H' dd = some (.xd fs) := fun dd e => by
    rcases hd with ⟨_, _, _, e0, _⟩ | ⟨_, dd', fs, e1, h1, _⟩
    · rw [e0] at e
      cases e
    · rw [e1] at e
      cases e
      exact ⟨fs, h1⟩
  refine ⟨i, rfl, hi, rfl, keep, fun H2 s2 => ?_⟩
  refine ⟨_, rfl, _, rfl, (by show 3 ≤ sizeLine; decide), fun t3 n3 => ?_⟩
  have s3 := s2.trans (Same.upd (o := .tup [.str "BadValues", .str "BadRows", .str "BadText"]) n3)
  refine ⟨t3, _, rfl, .inr (SqT.of upd_same), rfl, rfl, _, rfl, ?_⟩
  have e := place_in hi
  show if inV (.str (cnm i)) [V.str "BadValues", V.str "BadRows", V.str "BadText"] = true then _ else _
  rw [e]
  rcases hd with ⟨h1, h5, h12, ed, ep⟩ | ⟨hp, dd, fs, ed, hdd, hf⟩
  · rw [decide_eq_false (by omega)]
    refine ite2 (fun z => Bool.noConfusion (show false = true from z)) (fun _ => ?_)
    refine ⟨(by show 2 ≤ sizeLine; decide), fun t nt => ?_⟩
    subst ep
    exact k _ t (s3.upd' nt) (s3.free nt) upd_same
  · rw [decide_eq_true hp]
    refine ite2 (fun _ => ?_) (fun z => absurd rfl z)
    obtain ⟨x1, x2⟩ := KS.xf i hp
    refine ⟨_, rfl, rfl, cs i, dd, fs, .int pl, x1, x2, rfl, ed, s3 _ _ hdd, hf, (by show 2 ≤ sizeLine; decide), fun t nt => ?_⟩
    exact k _ t (s3.upd' nt) (s3.free nt) upd_same
/-! ### what is looked at in the head -/
def excCB (K : PySem.W.Frag) (D : Addr) : Bool :=
  decide (PySem.W.findIn K (.ref D) "__getattribute__" = some (some (.builtin "BaseException.__getattribute__"))) && (decide (PySem.W.findIn K (.ref D) "__getattr__" = some none) && (decide (PySem.W.subIn K (.ref D) (.type "BaseException") = some true) && (PySem.W.hasDictIn K D &&
  (decide (PySem.W.findIn K (.ref D) "__class__" = some (some (.builtin "object.__class__"))) && (decide (PySem.W.specialIn K (.builtin "object.__class__") "__get__" = some (some (.builtin "getset_descriptor.__get__"))) && (decide (PySem.W.takesIn K (.builtin "object.__class__") = some true) && decide (PySem.W.mroIn K D (.type "object") = some true)))))))
theorem excCB_ok {K : PySem.W.Frag} {D : Addr} (h : excCB K D = true) : L2.ExcC K D := by
  obtain ⟨h1, h⟩ := Bool.and_eq_true_iff.mp h
  obtain ⟨h2, h⟩ := Bool.and_eq_true_iff.mp h
  obtain ⟨h3, h⟩ := Bool.and_eq_true_iff.mp h
  obtain ⟨h4, h⟩ := Bool.and_eq_true_iff.mp h
  obtain ⟨h5, h⟩ := Bool.and_eq_true_iff.mp h
  obtain ⟨h6, h⟩ := Bool.and_eq_true_iff.mp h
  obtain ⟨h7, h8⟩ := Bool.and_eq_true_iff.mp h
  exact ⟨of_decide_eq_true h1, of_decide_eq_true h2, of_decide_eq_true h3, h4, of_decide_eq_true h5, of_decide_eq_true h6, of_decide_eq_true h7, of_decide_eq_true h8⟩
def kindB (K : PySem.W.Frag) (cs : Nat → Addr) (CE : Addr) (i : Nat) : Bool :=
  excCB K (cs i) && ((List.range 13).all (fun j => decide (PySem.W.kitOne K (.ref (cs i)) (.ref (cs j)) = some (decide (i = j)))) && (decide (PySem.W.kitOne K (.ref (cs i)) (.type "ValueError") = some true) && (decide (PySem.W.exmOne K (.ref (cs i)) (.ref CE) = some true) &&
  (if i = 1 ∨ i = 5 ∨ i = 12 then xfB K (cs i) && decide (PySem.W.findIn K (.ref (cs i)) "place" = some none) else true))))
def kindsB (K : PySem.W.Frag) (cs : Nat → Addr) (CE : Addr) : Bool := (List.range 13).all (kindB K cs CE)
theorem kinds_of {K : PySem.W.Frag} {mg : Str → Option Value} {cs : Nat → Addr} {CE : Addr} (h : kindsB K cs CE = true) (g : ∀ i, i < 13 → mg (cnm i) = some (.ref (cs i))) (ge : mg "ColumnError" = some (.ref CE)) : Kinds K mg cs CE := by
  have key : ∀ i, i < 13 → kindB K cs CE i = true := fun i hi => List.all_eq_true.mp h i (List.mem_range.mpr hi)
  have part : ∀ i, i < 13 → L2.ExcC K (cs i) ∧ (∀ j, j < 13 → PySem.W.kitOne K (.ref (cs i)) (.ref (cs j)) = some (decide (i = j))) ∧ PySem.W.kitOne K (.ref (cs i)) (.type "ValueError") = some true ∧ PySem.W.exmOne K (.ref (cs i)) (.ref CE) = some true ∧ (i = 1 ∨ i = 5 ∨ i = 12 → XfC K (cs i) ∧ PySem.W.findIn K (.ref (cs i)) "place" = some none) := fun i hi => by
    obtain ⟨h1, h⟩ := Bool.and_eq_true_iff.mp (key i hi)
    obtain ⟨h2, h⟩ := Bool.and_eq_true_iff.mp h
    obtain ⟨h3, h⟩ := Bool.and_eq_true_iff.mp h
    obtain ⟨h4, h5⟩ := Bool.and_eq_true_iff.mp h
    refine ⟨excCB_ok h1, fun j hj => of_decide_eq_true (List.all_eq_true.mp h2 j (List.mem_range.mpr hj)), of_decide_eq_true h3, of_decide_eq_true h4, fun hp => ?_⟩
    rw [if_pos hp] at h5
    obtain ⟨h6, h7⟩ := Bool.and_eq_true_iff.mp h5
    exact ⟨xfB_ok h6, of_decide_eq_true h7⟩
  exact ⟨g, fun i hi => (part i hi).1, fun i j hi hj => (part i hi).2.1 j hj, fun i hi => (part i hi).2.2.1, fun i hi => (part i hi).2.2.2.1, ge, fun i hp => (part i (by omega)).2.2.2.2 hp⟩
end K3

set_option Elab.async false
set_option linter.all false
set_option maxRecDepth 100000
set_option maxHeartbeats 4000000
/-! KI: refusals with a place: their own __init__ -/
namespace K3
open PySem PySem.Spec PyProof.Rows L2
/-- the refusals' common class, whose __init__ is ValueError's -/
structure ExcB (K : PySem.W.Frag) (mg : Str → Option Value) (CE : Addr) : Prop where
  g : mg "ColumnError" = some (.ref CE)
  s : PySem.W.specialIn K (.ref CE) "__getattribute__" = some (some (.builtin "type.__getattribute__"))
  r : PySem.W.readsIn K CE (.type "type") = true
  f : PySem.W.findCls K (.ref CE) (.type "type") "__init__" = some (.val (.builtin "ValueError.__init__"))
/-- a class of refusals with a place -/
structure ExcP (K : PySem.W.Frag) (mg : Str → Option Value) (x : Str) (st : Stmt) (C : Addr) : Prop where
  g : mg x = some (.ref C)
  o : OexC K C
  nf : PySem.W.findIn K (.ref C) "place" = some none
  ex : ∃ (fI : Addr) (fd : FuncData), FunD K "__init__" (x ++ ".__init__") (defArgs st) (defBody st) (defScope st) [] [] fI fd ∧ Binds K fd ["self", "place"] [] ∧ PySem.W.findIn K (.ref C) "__init__" = some (some (.ref fI)) ∧ PySem.W.typeIn K (.ref fI) = some (.type "function")
section
variable {X : Cx} {e : Expr} {es : List Expr} {ta : TA} {x : Str} {p1 p2 pos : Pos} {CE : Addr}
/-- ColumnError.__init__(self, ..) -/
theorem pe_ceinit {pl : Sem Bool} (B : ExcB X.K X.mg CE) (hg : Gl X "ColumnError") (ha : PA X (e :: es) ta)
    (hc : eval (.Call (.Attribute (.Name "ColumnError" p1) "__init__" p2) (e :: es) [] pos) X.env = (do
      let ov ← eval (.Name "ColumnError" p1) X.env
      standAt p2.atName
      let (f, first) ← holding [ov] (getMethod ov "__init__" pl)
      callWith pos f first (backTo pos (starEach (e :: es) X.env)) (backToKw pos (keywordEach [] X.env))) := by rfl)
    (he : starEach (e :: es) X.env = (false, eval e X.env) :: starEach es X.env := by rfl) (hpl : (backTo pos (starEach es X.env)).any (·.1) = false := by rfl) :
    PE X (.Call (.Attribute (.Name "ColumnError" p1) "__init__" p2) (e :: es) [] pos) (tVeI X.K ta) := by
  refine ⟨fun pins s σ H Q I h => ?_⟩
  refine PySem.W.methodCall_KW (ld_glob I hg B.g ?_ (by decide)) hc
  refine PySem.W.method_cls I.kIn B.s (PySem.W.cls_value I.kIn B.r B.f (by decide +kernel) ?_)
  show wpAny _ _ (callWith pos (Value.builtin "ValueError.__init__") [] (backTo pos (starEach (e :: es) X.env)) []) _ _ _
  refine PyProof.Rows.callWith_method1 (thn (ha.run pos pins _ σ H _ (I.tok _) h) fun us s1 ⟨vs, H1, I1, r1, a, C, ws, ev, hl, T, ea, q⟩ => ?_) he hpl
  subst ev
  cases r1 with
  | @cons _ u0 _ ur ra rw' =>
    obtain rfl : u0 = Value.ref a := ra
    have hlen : ur.length ≤ sizeLine := by
      rw [← Paired.length rw', sizeLine_eq]
      omega
    exact oinit_ok T I1 ea hlen fun s' J => ⟨.non, H1, J, rfl, q⟩
end
section
variable {P : Program} {w : World} {K : PySem.W.Frag} {mg : Str → Option Value} {base : Heap}
def spInit (K : PySem.W.Frag) : Sp := fun vs H Q _ => ∃ (a C : Addr) (k : Int), vs = [.ref a, .int k] ∧ OexC K C ∧ PySem.W.findIn K (.ref C) "place" = some none ∧ H a = some (exo a C none) ∧ k.natAbs < 2 ^ 64 ∧
  ∀ d, H d = none → d ≠ a → Q .non (upd (upd H d (exd d [("place", .int k)])) a (exo a C (some d)))
abbrev s_BadValues : Stmt := inClass (top 3) 0
theorem sc_BadValues : FnScope ["self", "place"] ["self", "place"] (defScope s_BadValues) := ⟨rfl, rfl, rfl, by decide +kernel, rfl, by decide +kernel, by decide +kernel⟩
theorem ok_initV {CE C : Addr} (B : ExcB K mg CE) (D : ExcP K mg "BadValues" s_BadValues C) : ∃ (fI : Addr) (fd : FuncData), FnOk P w K mg base CX0 1 fI fd ["self", "place"] (spInit K) ∧ Binds K fd ["self", "place"] [] ∧ PySem.W.findIn K (.ref C) "__init__" = some (some (.ref fI)) ∧ PySem.W.typeIn K (.ref fI) = some (.type "function") := by
  obtain ⟨fI, fd, F, hb, h1, h2⟩ := D.ex
  refine ⟨fI, fd, F.ok sc_BadValues (fun vs H Q E h => ?_) fun cdv A outer s H vs Q E hr h => ?_, hb, h1, h2⟩
  · obtain ⟨a, C, k, rfl, _⟩ := h
    rfl
  · obtain ⟨a, C, k, rfl, T, hno, ha, hk, q⟩ := h
    have nd := sc_BadValues.nd
    refine ⟨_, pss_cons (ps_expr (pe_ceinit B rfl (pa_cons (pv 0) (pa_cons (pe_joined (.cons pe_str (.cons (pe_fmt (pv 1)) (.cons pe_str .nil)))) pa_nil)))) (pss_one (ps_ost (pv 0) (pv 1))), ?_⟩
    refine ⟨_, rfl, _, rfl, str_fits (str_add (show Str.empty.length ≤ 0 from Nat.le_refl 0) (show (Str.ofString "what stands at place ").length ≤ 21 by decide)) (by decide), _, rfl, .inr ⟨_, rfl, int_log hk, _, rfl, str_fits (str_add (str_add (show Str.empty.length ≤ 0 from Nat.le_refl 0) (show (Str.ofString "what stands at place ").length ≤ 21 by decide)) (int_len hk)) (by decide), _, rfl, str_fits (str_add (str_add (str_add (show Str.empty.length ≤ 0 from Nat.le_refl 0) (show (Str.ofString "what stands at place ").length ≤ 21 by decide)) (int_len hk)) (show (Str.ofString " is no value here").length ≤ 17 by decide)) (by decide), a, C, _, rfl, (by show 1 ≤ 1000; decide), T, ha, ?_⟩⟩
    exact ⟨_, rfl, _, rfl, a, C, rfl, T, hno, .inl ⟨ha, fun dx n ne => q dx n ne⟩⟩
/-- x(k) of such a class, made to be raised -/
theorem mk_pl {C : Addr} {H1 : Hp} {Q : XK} {k : Int} (o : OexC K C) (nf : PySem.W.findIn K (.ref C) "place" = some none) (hk : k.natAbs < 2 ^ 64) (h : ∀ d H2, Same H1 H2 → H1 d = none → H2 d = some (.xd [("place", .int k)]) → Q (.ref C) (some d) H2) :
    ([V.int k] : List V).length ≤ 1000 ∧ ∀ a, H1 a = none → spInit K (.ref a :: ([V.int k] ++ [])) (upd H1 a (exo a C none)) (fun v H2 => v = .non ∧ ∃ (d : Addr) (fs : List (Str × V)), H2 a = some (exo a C (some d)) ∧ H2 d = some (exd d fs) ∧ H1 d = none ∧ Q (.ref C) (some d) (upd (L2.del H2 a) d (.xd fs))) (fun _ _ _ => False) := by
  refine ⟨by show 1 ≤ 1000; decide, fun a na => ⟨a, C, k, rfl, o, nf, upd_same, hk, fun d nd hda => ?_⟩⟩
  have nd1 : H1 d = none := by rw [upd_ne hda] at nd; exact nd
  refine ⟨rfl, d, _, upd_same, (upd_ne hda).trans upd_same, nd1, h d _ (fun b u e => ?_) nd1 upd_same⟩
  rw [upd_ne (ne_of_none e nd1), del_ne (ne_of_none e na), upd_ne (ne_of_none e na), upd_ne (ne_of_none e nd1), upd_ne (ne_of_none e na)]
  exact e
end
section
variable {X : Cx} {x : Str} {C : Addr} {st : Stmt} {e : Expr} {ta : TE} {p pos : Pos}
theorem pmk_pl (D : ExcP X.K X.mg x st C) (F : ∃ (fI : Addr) (fd : FuncData), FnOk X.prog X.w X.K X.mg X.base CX0 1 fI fd ["self", "place"] (spInit X.K) ∧ Binds X.K fd ["self", "place"] [] ∧ PySem.W.findIn X.K (.ref C) "__init__" = some (some (.ref fI)) ∧ PySem.W.typeIn X.K (.ref fI) = some (.type "function"))
    (hr : Room 2 X.A) (he : PE X e ta) (hg : Gl X x := by rfl) (hdb : (x == ("__debug__" : Str)) = false := by decide) (hst : starEach [e] X.env = (false, eval e X.env) :: starEach [] X.env := by rfl) (hpl : (backTo pos (starEach [] X.env)).any (·.1) = false := by rfl) :
    PMk X (.Call (.Name x p) [e] [] pos) (tMkO C (spInit X.K) [] (tCons ta tNil)) := by
  obtain ⟨fI, fd, F1, hb, h1, h2⟩ := F
  exact pmk_oex D.o h1 h2 F1 hr hb .nil pass0 hg D.g (pa_cons he pa_nil hst) hdb hst hpl
end
end K3

set_option Elab.async false
set_option linter.all false
set_option maxRecDepth 100000
set_option maxHeartbeats 4000000
/-! KT: enumerate of a tuple, or of either -/
namespace PySem
open Sem (wp)
set_option maxHeartbeats 4000000 in
theorem k3_enum_new {v : Value} {o : Obj} {H : Heap → Prop} (B : Begins v o H) :
    Meets (Builtin.«enumerate.__new__» ⟨[.type "enumerate", v], []⟩) (fun _ R s => H s.heap ∧
      R (.ok (.ret (.ref (s.heap.push o).objs.size))) { s with heap := (s.heap.push o).push { cls := .type "enumerate", data := .fields #[.none, .bool false, .ref s.heap.objs.size, rawInt 0, .none, .none] } }) :=
  .of_wp fun prog w A R s h => by
    obtain ⟨hp, g, d, tk, os⟩ := s
    obtain ⟨h1, h⟩ := h
    have hsub := sub_enumerate
    have q1 : ∀ {A' : Around} {E : Value → Shared → Prop} {Q : Value → Shared → Prop}, Q (.ref hp.objs.size) ⟨hp.push o, g, d, tk, os⟩ → wpAny (model prog w) A' (pyIter v) Q E ⟨hp, g, d, tk, os⟩ := fun q => B.iter prog w _ _ ⟨hp, g, d, tk, os⟩ _ h1 q
    wp_walk using q1
    refine wpAny_stack_any fun st => wpAny_pure ?_
    split
    · rename_i c _ _ _ _ _
      cases (c == Value.type "enumerate")
      · wp_walk using q1
        exact ⟨_, rfl, h⟩
      · wp_walk using q1
        exact ⟨_, rfl, h⟩
    · wp_walk using q1
      exact ⟨_, rfl, h⟩
theorem k3_call_enum {prog : Program} {w : World} {A : Around} {E : Value → Shared → Prop} {s : Shared} {v : Value} {o : Obj} {H : Heap → Prop} {Q : Value → Shared → Prop} (B : Begins v o H) (h1 : H s.heap)
    (h : ∀ h', IsEnum h' (s.heap.objs.size + 1) s.heap.objs.size 0 .none → h'.get? s.heap.objs.size = some o → (∀ b o, s.heap.get? b = some o → h'.get? b = some o) → Q (.ref (s.heap.objs.size + 1)) { s with heap := h' }) :
    wpAny (model prog w) A (call (.type "enumerate") [v]) Q E s := by
  refine callType_new F.called_enumerate (by decide) (F.typeCall_enumerate_1 _) (F.newCall_enumerate_1 _) (fun obj => F.args_object_init_2 obj _) F.entry_enumerate_new (k3_enum_new B) ⟨h1, ?_⟩
  have hz : (s.heap.push o).objs.size = s.heap.objs.size + 1 := Heap.size_push ..
  show _ ∧ _
  rw [hz]
  have he : IsEnum ((s.heap.push o).push { cls := .type "enumerate", data := .fields #[.none, .bool false, .ref s.heap.objs.size, rawInt 0, .none, .none] }) (s.heap.objs.size + 1) s.heap.objs.size 0 .none := by
    have := Heap.get?_push_size (s.heap.push o) (o := { cls := .type "enumerate", data := .fields #[.none, .bool false, .ref s.heap.objs.size, rawInt 0, .none, .none] }) rfl
    rw [hz] at this
    exact this
  exact ⟨⟨_, he, rfl⟩, h _ he (Heap.get?_push_of_some _ (Heap.get?_push_size _ B.free)) fun b o x => Heap.get?_push_of_some _ (Heap.get?_push_of_some _ x)⟩
end PySem
namespace K3
open PySem PySem.Spec PyProof.Rows L2
/-- the tuple at a, each item in a new pair -/
def IteT (K : PySem.W.Frag) (a : Addr) : It :=
  ⟨fun i H => ∃ (xs : List V) (x : V), SqT K H a xs ∧ xs[i]? = some x, fun i H v H' => ∃ T x, v = .ref T ∧ H T = none ∧ H' = L2.upd H T (.tup [.int (i : Nat), x]) ∧ ∀ xs, SqT K H a xs → xs[i]? = some x, fun i H => ∃ xs : List V, SqT K H a xs ∧ xs.length ≤ i⟩
theorem turn_enumT {P : Program} {w : World} {K : PySem.W.Frag} {elts : List Expr} {kk : Nat} {tpos : Pos} (a e it : Addr) :
    Turn P w K (.Tuple elts kk tpos) (IteT K a) [e, it] e (fun i h => (∃ old, IsEnum h e it ((i : Nat) : Int) old) ∧ h.IsTupleIter it a i ∧ e ≠ it) where
  mem := by simp
  obj := fun i h st b hb => by
    obtain ⟨⟨old, he⟩, ⟨o, ho, hc, hd⟩, _⟩ := st
    have e' : b = e ∨ b = it := by simpa using hb
    rcases e' with z | z
    · rw [z]
      exact ⟨_, he, fun v q => nomatch q⟩
    · rw [z]
      exact ⟨o, ho, fun v q => by rw [hd] at q; cases q⟩
  keep := fun i h h' st k => let ⟨⟨old, he⟩, hi, hne⟩ := st; ⟨⟨old, k e (by simp) _ he⟩, hi.at fun o q => k it (by simp) o q, hne⟩
  item := by
    intro X hP hw hK hc i pins s σ H E I hf st hg
    subst hP hw hK
    obtain ⟨⟨old, he⟩, hit, hne⟩ := st
    obtain ⟨xs, x, hq, hx⟩ := hg
    obtain ⟨its, rv, p, hz⟩ := I.tuple hq
    obtain ⟨u, hu, ru⟩ := rv.get hx
    have p' : s.heap.IsTuple a its.toArray := p
    have hel : e < s.heap.objs.size := Heap.lt_size he
    have hil : it < s.heap.objs.size := by obtain ⟨_, q, _⟩ := hit; exact Heap.lt_size q
    have hai : a ≠ it := fun z => by
      obtain ⟨o1, e1, c1, _⟩ := p'
      obtain ⟨o2, e2, c2, _⟩ := hit
      rw [z, e2] at e1
      cases e1
      rw [c2] at c1
      exact absurd (Value.type.inj c1) (by decide)
    have hae : a ≠ e := fun z => by
      obtain ⟨o1, e1, c1, _⟩ := p'
      rw [z, show s.heap.get? e = _ from he] at e1
      cases e1
      exact absurd (Value.type.inj c1) (by decide)
    have hlt : i < its.toArray.size := by
      have := (List.getElem?_eq_some_iff.mp hu).1
      simpa using this
    refine wpAny_pyNext_enum_itemD (Draws.tuple (show X.A.in1.handled = none from I.ok.hd hc) it a hai its.toArray) he ⟨hit, p'⟩ hlt hne (by simp [hne, Ne.symm hae]) fun y h' tk hy ho hit' hT hsz hk => ?_
    obtain rfl : u = y := by
      have h2 : its[i]? = some y := by simpa using hy
      rw [hu] at h2
      exact Option.some.inj h2
    refine ⟨_, rfl, wpAny_letOwnedTupleGo_enum (s := { s with heap := h', toks := tk + 1 }) ho fun h'' he' sb => ?_⟩
    have hT2 : h''.get? s.heap.objs.size = some { cls := .type "tuple", data := .seq #[.int i tk, u] } := (sb.2 _ (Nat.ne_of_gt hel)).trans hT
    have new : ObjOk X.prog X.w (L2.upd H s.heap.objs.size (.tup [.int (i : Nat), x])) h'' s.heap.objs.size (.tup [.int (i : Nat), x]) :=
      ⟨by show 2 ≤ sizeLine; decide, [.int i tk, u], .cons ⟨_, rfl⟩ (.cons ru .nil), ⟨_, hT2, rfl, _, rfl⟩⟩
    have I1 : Inv X pins σ (L2.upd H s.heap.objs.size (.tup [.int (i : Nat), x])) { s with heap := h'', toks := tk + 1 } :=
      I.turnedNew (ch := [e, it]) (fun b ob hb q => (sb.2 b (fun z => hb (by simp [z]))).trans (hk b ob (fun z => hb (by simp [z])) (fun z => hb (by simp [z])) q)) hf (Nat.le_refl _) new
    refine ⟨.ref s.heap.objs.size, _, I1, rfl, ⟨_, x, rfl, I.hok.fresh (Nat.le_refl _), rfl, fun ys hy => by rw [I.tuple_inj hy hq]; exact hx⟩, ⟨⟨u, ?_⟩, hit'.1.at fun o q => (sb.2 it (Ne.symm hne)).trans q, hne⟩, fun b hb => ?_⟩
    · have e1 : ((i + 1 : Nat) : Int) = (i : Int) + 1 := by omega
      rw [e1]
      exact he'
    · have hb' : b < s.heap.objs.size := by
        have e' : b = e ∨ b = it := by simpa using hb
        rcases e' with z | z
        · rw [z]; exact hel
        · rw [z]; exact hil
      rw [upd_ne (Nat.ne_of_lt hb')]
      exact (hf b hb).1
  done := by
    intro X hP hw hK hc i pins s σ H E I hf st hg
    subst hP hw hK
    obtain ⟨⟨old, he⟩, hit, hne⟩ := st
    obtain ⟨xs, hq, hx⟩ := hg
    obtain ⟨its, rv, p, hz⟩ := I.tuple hq
    obtain ⟨f0, f1, f2, f3, f4, f5⟩ := hf it (by simp)
    have hl := rv.length
    have p' : s.heap.IsTuple a its.toArray := p
    have D : Draws X.prog X.w X.A.in1 it [it, a] i (fun _ _ => True) (fun j h => j = i ∧ h.IsTupleIter it a i ∧ h.IsTuple a its.toArray) :=
      ⟨fun _ _ st => let ⟨o, ho, _⟩ := st.2.1; ⟨o, ho⟩, fun _ _ _ st hk => ⟨st.1, st.2.1.at fun o e => hk it (by simp) o e, st.2.2.at fun o e => hk a (by simp) o e⟩, fun j s Q E hj st _ => absurd st.1 (Nat.ne_of_lt hj), fun s Q E st hE => wpAny_nextOf_tuple_end (show X.A.in1.handled = none from I.ok.hd hc) st.2.1 st.2.2 (by simp; omega) hE⟩
    exact wpAny_pyNext_enum_endD D he ⟨rfl, hit, p'⟩ fun h' eb => ⟨rfl, I.turned (t' := s.toks) (fun b o hb q => eb b o hb q) f0 f1 f3 f4 f5⟩
  self := fun A i s Q E st h => let ⟨⟨_, he⟩, _⟩ := st; wpAny_pyIter_enum he h
theorem walk_enumT {K : PySem.W.Frag} {a : Addr} {xs : List V} : Walk (IteT K a) xs.length (fun H => SqT K H a xs) (YPair (fun i => some (.int (i : Nat))) (fun i => xs[i]?)) := by
  refine ⟨fun i _ hi q => ⟨xs, xs[i], q, by simp [hi]⟩, fun _ q => ⟨xs, q, Nat.le_refl _⟩, fun i H v H' _ q y => ?_⟩
  obtain ⟨T, x, h1, h2, h3, h4⟩ := y
  exact ⟨T, .int (i : Nat), x, h1, h2, h3, rfl, h4 xs q⟩
/-- a list or a tuple -/
def SqS (K : PySem.W.Frag) (H : Hp) (a : Addr) (xs : List V) : Prop := SqL K H a xs ∨ SqT K H a xs
theorem SqS.same {K : PySem.W.Frag} {H H' : Hp} {a : Addr} {xs : List V} (h : SqS K H a xs) (s : Same H H') : SqS K H' a xs := h.elim (fun h => .inl (s.seq h)) fun h => .inr (s.seqT h)
def iEnumS (K : PySem.W.Frag) (ta : TA) : TI := fun σ H R => ta σ H fun vs H1 => ∃ a, vs = [.ref a] ∧ ((∃ xs, SqL K H1 a xs ∧ R (Ite K a) H1) ∨ (∃ xs, SqT K H1 a xs ∧ R (IteT K a) H1))
theorem pi_enumS {X : Cx} {e : Expr} {ta : TA} {p pos tpos : Pos} {elts : List Expr} {kk : Nat} (hg : Gl X "enumerate") (hm : X.mg "enumerate" = none) (ha : PA X [e] ta) (hs : starEach [e] X.env = [(false, eval e X.env)] := by rfl) :
    PI X (.Tuple elts kk tpos) (.Call (.Name "enumerate" p) [e] [] pos) (iEnumS X.K ta) := by
  refine ⟨fun pins s σ H R I h => ?_⟩
  refine Call_ (ld_blt I hg hm boot_enumerate (PyProof.Rows.callWith_type1 (thn (ha.run pos pins s σ H _ I h) fun us s1 ⟨vs, H1, I1, r1, q1⟩ => ?_) hs rfl))
  obtain ⟨a, ex, q⟩ := q1
  subst ex
  have fpK : ∀ b ∈ [s1.heap.objs.size + 1, s1.heap.objs.size], FpOk X pins H1 b := fun b hb => by
    have e' : b = s1.heap.objs.size + 1 ∨ b = s1.heap.objs.size := by simpa using hb
    have hle : s1.heap.objs.size ≤ b := by
      rcases e' with z | z
      · rw [z]; exact Nat.le_add_right _ _
      · rw [z]; exact Nat.le_refl _
    exact I1.fpOk hle (I1.hok.fresh hle)
  cases r1 with
  | cons r rr =>
    cases rr
    cases r
    rcases q with ⟨xs, hq, q⟩ | ⟨xs, hq, q⟩
    · obtain ⟨its, rv, p', hz⟩ := I1.list hq
      refine call_enumerate_list p'.isList fun h' he hit hsz hk => wpAny_pyIter_enum he ?_
      have I2 : Inv X pins σ H1 { s1 with heap := h' } := I1.kept (t' := s1.toks) hk
      exact ⟨s1.heap.objs.size + 1, [s1.heap.objs.size + 1, s1.heap.objs.size], _, _, H1, rfl, I2, turn_enum a (s1.heap.objs.size + 1) s1.heap.objs.size, ⟨⟨.none, he⟩, hit, Nat.succ_ne_self _⟩, fpK, q⟩
    · obtain ⟨its, rv, p', hz⟩ := I1.tuple hq
      refine k3_call_enum (begins_tuple a its.toArray) (show s1.heap.IsTuple a its.toArray from p') fun h' he hit hk => wpAny_pyIter_enum he ?_
      have I2 : Inv X pins σ H1 { s1 with heap := h' } := I1.kept (t' := s1.toks) hk
      exact ⟨s1.heap.objs.size + 1, [s1.heap.objs.size + 1, s1.heap.objs.size], _, _, H1, rfl, I2, turn_enumT a (s1.heap.objs.size + 1) s1.heap.objs.size, ⟨⟨.none, he⟩, ⟨_, hit, rfl, rfl⟩, Nat.succ_ne_self _⟩, fpK, q⟩
end K3

set_option Elab.async false
set_option linter.all false
set_option maxRecDepth 100000
set_option maxHeartbeats 4000000
/-! KN: lambdas in a list, each told -/
namespace K3
open PySem PySem.Spec PyProof.Rows L2
section
variable {Z : Cx} {W : WX} {k i : Nat} {f : Addr} {a : Str} {tl : XK → Hp → VK → Prop} {p1 p2 : Pos}
/-- x(), x a lambda whose maker's cells stand in the base -/
theorem pe_actB (C : CallB Z.prog Z.w Z.K Z.mg Z.base k f tl) (tk : Takes Z W) (hr : Room k Z.A) (hN : Z.N[i]? = some a) (hv : Vis Z.env.scope a) (hd : (a == ("__debug__" : Str)) = false := by decide) (hcd : (a == ("__classdict__" : Str)) = false := by decide) :
    PE Z (.Call (.Name a p1) [] [] p2) (fun σZ HZ Q => σZ[i]? = some (some (.ref f)) ∧ tl (WE W σZ) HZ Q) := by
  refine ⟨fun pinsZ sZ σZ HZ Q IZ h => ?_⟩
  obtain ⟨hs, ht⟩ := h
  refine wpAny_Call_Name_kw (thn ((pe_var (pos := p1) (i := i) hN hv hd hcd).run pinsZ sZ σZ HZ (fun v H1 => v = .ref f ∧ H1 = HZ) IZ ⟨.ref f, hs, rfl, rfl⟩) fun u s1 ⟨v, H1, I1, r1, q1⟩ => ?_)
  obtain ⟨ev, eH⟩ := q1
  subst ev
  rw [eH] at I1
  obtain rfl : u = Value.ref f := r1
  obtain ⟨hfn, rc⟩ := C Z.A Z.stack s1 HZ Q (WE W σZ) hr I1.env0 ht
  refine PySem.W.callWith_F0 hfn ?_
  have hx : PassesAt (L2.CX Z.prog Z.w) Z σZ (WE W σZ) := passAt tk σZ
  refine wpAny_call (codeAny_mono rc fun r s' hq => ?_)
  cases r with
  | error e => exact hx pinsZ HZ s1 e s' I1 hq
  | ok fl =>
    cases fl with
    | ret u => exact I1.after hq
    | next => exact False.elim hq
    | brk => exact False.elim hq
    | cont => exact False.elim hq
end
section
variable {X : Cx} {k : Nat} {ps : List Str} {sp : Heap → Sp} {x : Str} {q pos : Pos} {e : Expr} {es : List Expr} {t : TA}
/-- a call of a def that gets lambdas of the caller: it promises over any base -/
theorem pe_callL (F : ∀ b, Fn X.prog X.w X.K X.mg b CX0 k x ps (sp b)) (hr : Room k X.A) (hfn : ∀ x, X.fn x = true) (ha : PA X (e :: es) t) (hg : Gl X x := by rfl)
    (hdb : (x == ("__debug__" : Str)) = false := by decide) (he : starEach (e :: es) X.env = (false, eval e X.env) :: starEach es X.env := by rfl) (hpl : (backTo pos (starEach es X.env)).any (·.1) = false := by rfl) :
    PE X (.Call (.Name x q) (e :: es) [] pos) (fun σ H Q => t σ H fun vs H1 => ∀ b, LamsOk X σ b → sp b vs H1 Q C8.E0) := by
  obtain ⟨f0, fd0, G0, hm, hk, _⟩ := (F X.base).ex
  refine ⟨fun pins s σ H Q I h => ?_⟩
  refine wpAny_Call_Name_kw (ld_glob I hg hm ?_ hdb)
  refine PySem.W.callWith_K (h₀ := X.base) I.ok.mod.kin hk (thn (ha.run pos pins s σ H _ I h) fun us s1 ⟨vs, H1, I1, r, hq⟩ => ⟨I1.kIn, ?_⟩) he hpl
  have hq := hq _ (lams_ok I1 hfn)
  obtain ⟨f, fd, G, hm', hk', hb⟩ := (F (bigB X H1 s1.heap)).ex
  rw [hm] at hm'
  cases hm'
  have hl : us.length = ps.length := by rw [← r.length]; exact G.len _ _ _ _ hq
  have b := hb s1 us I1.kIn (by rw [List.append_nil]; exact hl)
  rw [List.append_nil] at b
  refine wpAny_call (codeAny_mono (G.run X.A X.stack s1 H1 ⟨us, []⟩ us vs Q C8.E0 hr (bigB_env0 I1).2 b r hq) fun r s' hq => ?_)
  cases r with
  | error e => exact (show False from hq).elim
  | ok fl =>
    cases fl with
    | ret u => exact I1.after hq
    | next => exact False.elim hq
    | brk => exact False.elim hq
    | cont => exact False.elim hq
end
/-- a comprehension of one name with an if -/
theorem lc_ifL {J : It} {n : Nat} {G : Hp → Prop} {Y : Nat → Hp → V → Hp → Prop} (w : Walk J n G Y) {j : Nat} {tt : TT} {te : TE} {σ : L2.St} {H1 : Hp} {D : Addr} {Qd : Hp → Prop} (Pv : Nat → Hp → Prop) (h0 : Pv 0 (L2.upd H1 D (.lst []))) (hG : ∀ i H, i ≤ n → Pv i H → G H)
    (hs : ∀ i x H H', i < n → Pv i H → Y i H x H' → tt (σ.set j (some x)) H' fun b H3 => if b = true then te (σ.set j (some x)) H3 fun y H4 => ∃ acc, H4 D = some (.lst acc) ∧ acc.length < sizeLine ∧ Pv (i + 1) (L2.upd H4 D (.lst (acc ++ [y]))) else Pv (i + 1) H3) (hd : ∀ H, Pv n H → Qd H) :
    ∃ W : Nat → Nat → Hp → Prop, (∃ m, W 0 m (L2.upd H1 D (.lst []))) ∧ ∀ i m H, W i m H →
      (J.stop i H ∧ Qd H) ∨ (J.go i H ∧ ∃ Nx : Hp → Prop, (∀ H', Nx H' → ∃ m', m' < m ∧ W (i + 1) m' H') ∧ ∀ x H', J.yld i H x H' → gName j x (wipe σ [j]) H' fun σ2 H2 => wipe σ2 [j] = wipe σ [j] ∧ tt σ2 H2 fun b H3 =>
        if b = true then te σ2 H3 fun y H4 => ∃ acc, H4 D = some (.lst acc) ∧ acc.length < sizeLine ∧ Nx (L2.upd H4 D (.lst (acc ++ [y]))) else Nx H3) := by
  refine lc_it w Pv h0 hG (fun i x H H' hi p y => ?_) hd
  have q := hs i x H H' hi p y
  have e : (wipe σ [j]).set j (some x) = σ.set j (some x) := by
    show (σ.set j none).set j (some x) = σ.set j (some x)
    rw [List.set_set]
  refine ⟨?_, ?_⟩
  · show ((σ.set j none).set j (some x)).set j none = σ.set j none
    rw [List.set_set, List.set_set]
  · show tt ((wipe σ [j]).set j (some x)) H' (fun b H3 => if b = true then te ((wipe σ [j]).set j (some x)) H3 (fun y H4 => ∃ acc, H4 D = some (.lst acc) ∧ acc.length < sizeLine ∧ Pv (i + 1) (L2.upd H4 D (.lst (acc ++ [y])))) else Pv (i + 1) H3)
    rw [e]
    exact q
/-- a lambda that may be called: it tells T by the law's way -/
structure WorkOk (P : Program) (w : World) (K : PySem.W.Frag) (mg : Str → Option Value) (base : Heap) (k : Nat) (cs : Nat → Addr) (f : Addr) (H : Hp) (T : Hp → VK → Prop) : Prop where
  ex : ∃ (c' : Addr) (q : Str) (tl : XK → Hp → VK → Prop), H c' = some (LamX.CodeO c' q) ∧ CallB P w K mg base k f tl ∧ ∀ H' Q, Same H H' → T H' Q → TTd cs tl H' Q
theorem work_of {X : Cx} {σ : L2.St} {b' : Heap} {cs : Nat → Addr} {params : Arguments} {body : Expr} {scope : Scope} {ps : List Str} {dvs : List V} {k : Nat} {t : XK → TE} {f c' : Addr} {H : Hp} {T : Hp → VK → Prop} (LB : LamsOk X σ b') (L : LamAt X H f c' params body scope dvs) (hL : LamP X.N X.env.scope scope ps) (hB : LamB params body scope ps dvs)
    (hbody : ∀ (A : Around) (outer : List Env) (s : Shared) (H : Hp) (E : XK), Room k (A.deeper (LamX.lamEnv X scope s.heap.objs.size f c')) → PE (LamX.lamCx X A outer s H E scope f c') body (t E))
    (hT : ∀ (H' : Hp) (Q : VK) (E : XK), Same H H' → T H' Q → (∀ cls d H'', Told cs cls d H'' Q → E cls d H'') → t E σ H' Q) : WorkOk X.prog X.w X.K X.mg b' (k + 1) cs f H T := by
  obtain ⟨dV, h1, h2, h3⟩ := id L
  exact ⟨c', _, _, h2, LB.2 hL hB hbody, fun H' Q s' Tt E hE => ⟨L.same s', hT H' Q E s' Tt hE⟩⟩
section
variable {P : Program} {w : World} {K : PySem.W.Frag} {mg : Str → Option Value} {base : Heap}
def spTold (P : Program) (w : World) (K : PySem.W.Frag) (mg : Str → Option Value) (k : Nat) (cs : Nat → Addr) (base : Heap) : Sp := fun vs H Q _ => ∃ (f : Addr) (T : Hp → VK → Prop) (H0 : Hp), vs = [.ref f] ∧ WorkOk P w K mg base (k + 1) cs f H0 T ∧ Same H0 H ∧ T H Q
theorem ok_toldB {k : Nat} {cs : Nat → Addr} {CE : Addr} (KS : Kinds K mg cs CE) (G_class : Fnp P w K mg base CX0 1 "_law_class" P__law_class (spClass K cs)) (D : Df K mg "_law_told" s__law_told P__law_told) :
    Fn P w K mg base CX0 (k + 2) "_law_told" P__law_told (spTold P w K mg k cs base) := by
  refine D.ok sc__law_told (fun vs H Q E h => ?_) (fun f cdv A outer s H vs Q E hr h => ?_)
  · obtain ⟨f, T, H0, rfl, _⟩ := h
    rfl
  · obtain ⟨f', T, H0, rfl, ⟨c', q, tl, hc, C, hT⟩, s0, h⟩ := h
    exact told_gives (X := { cxOf CX0 P w K mg base N__law_told "_law_told" (defScope s__law_told) f cdv A outer s H E with A := A, stack := outer }) (q := q) KS G_class f' c' s H Q tl hr
      (fun W pn xe p1 p2 tk => (pe_actB (i := 0) C tk hr rfl (.inl rfl)).imp fun σ H Q ⟨h1, _, h3⟩ => ⟨h1, h3⟩) (s0 _ _ hc) (hT _ _ s0 h)
abbrev s__law_all : Stmt := top 27
abbrev N__law_all : List Str := ["_law_works", "_law_due", "_law_work"]
abbrev P__law_all : List Str := ["_law_works", "_law_due"]
theorem sc__law_all : FnScope N__law_all P__law_all (defScope s__law_all) := ⟨rfl, rfl, rfl, by decide +kernel, rfl, by decide +kernel, by decide +kernel⟩
def spAll (P : Program) (w : World) (K : PySem.W.Frag) (mg : Str → Option Value) (k n : Nat) (cs : Nat → Addr) (base : Heap) : Sp := fun vs H Q _ => ∃ (p q : Addr) (fs : List Addr), vs = [.ref p, .ref q] ∧ SqL K H p (fs.map V.ref) ∧ fs.length ≤ 1000 ∧
  (∀ f ∈ fs, WorkOk P w K mg base (k + 1) cs f H fun H' Q' => ∀ (v : V) (H'' : Hp), Same H' H'' → (∃ m, m < n ∧ Alk K H'' m v (.ref q)) → Q' v H'') ∧ ∀ H', Same H H' → Q (.bl true) H'
theorem ok_allB {k n : Nat} {cs : Nat → Addr} (hk : 1 + n ≤ k + 2) (T : Txt mg) (G_told : Fn P w K mg base CX0 (k + 2) "_law_told" P__law_told (spTold P w K mg k cs base)) (G_alike : Fn P w K mg base CX0 (1 + n) "_law_alike" P__law_alike (spAlike K n))
    (D : Df K mg "_law_all" s__law_all P__law_all) : Fn P w K mg base CX0 (k + 3) "_law_all" P__law_all (spAll P w K mg k n cs base) := by
  refine D.ok sc__law_all (fun vs H Q E h => ?_) (fun f cdv A outer s H vs Q E hr h => ?_)
  · obtain ⟨p, q, fs, rfl, _⟩ := h
    rfl
  · obtain ⟨p, q, fs, rfl, hS, hl, hW, k⟩ := h
    have nd := sc__law_all.nd
    have hr1 := hr
    have hr2 := hr.mono hk
    refine ⟨_, (pss_one (ps_ret (pe_cmpR (op_eqIs hr.units) (pe_lc (own := [("_law_work", 2)]) (g := gName 2) (by rfl) nd  (pi_list (pv 0)) (blkOk_by (own := [("_law_work", 2)]) (N := N__law_all) (sc := defScope s__law_all) (by decide +kernel)) (fun _ _ _ _ _ => pg_name (i := 2) nd rfl (Or.inl rfl)) (fun _ _ _ _ _ => pts_one (pt_not (pt_val (pe_c G_alike hr2 pass0 (pa_cons (pe_c G_told hr1 pass0 (pa_cons (pv 2) pa_nil)) (pa_cons (pv 1) pa_nil)))))) (fun _ _ _ _ _ => (pv 2))) (pe_lst pa_nil) (nomark _)))), ?_⟩
    refine ⟨_, rfl, p, rfl, ⟨_, hS⟩, fun D0 nD => ?_⟩
    refine lc_ifL (walk_list (xs := fs.map V.ref)) (fun m H' => Same H H' ∧ H' D0 = some (.lst [])) ⟨Same.upd nD, upd_same⟩ (fun _ _ _ h => h.1.seq hS) ?_ ?_
    · rintro m x H3 H3' hm ⟨s3, hD⟩ ⟨rfl, e⟩
      obtain ⟨f, hf, rfl⟩ := map_at e
      refine ⟨_, rfl, f, _, H, rfl, hW f (List.mem_of_getElem? hf), s3, fun v H4 s4 ⟨m', hm', hA⟩ => ?_⟩
      refine ⟨_, rfl, v, .ref q, rfl, m', hm', hA, _, rfl, ?_⟩
      exact ⟨s3.trans s4, s4 _ _ hD⟩
    · rintro H3 ⟨s3, hD⟩
      refine ⟨Nat.zero_le _, fun l nl => ?_⟩
      refine ⟨D0, l, [], [], rfl, rfl, SqL.of (Same.upd nl _ _ hD), SqL.of upd_same, ?_⟩
      exact k _ (s3.upd' nl)
end
end K3

set_option Elab.async false
set_option linter.all false
set_option maxRecDepth 100000
set_option maxHeartbeats 4000000
/-! KJ: what is looked at in the head for refusals with a place -/
namespace K3
open PySem PySem.Spec PyProof.Rows L2
def oexClsB (K : PySem.W.Frag) (C : Addr) : Bool := match K.lookup C with
  | some ⟨.type "type", _, .cls cd, sl⟩ => (match cd.mro, sl.toList with
    | .ref C' :: bm, [_, _, _, _, some (.builtin n), _] => C' == C && n == "ValueError.__new__" && !cd.hasDel && cd.hasDict && PySem.HandSPX.refsVE bm
    | _, _ => false)
  | _ => false
theorem oexCls_ok {K : PySem.W.Frag} {C : Addr} (q : oexClsB K C = true) : ∃ nm q N bs bm sn sub ab col dd k0 k1 k2 k3 k5, K.lookup C = some (excClassObj nm q C N bs bm true sn sub ab col dd k0 k1 k2 k3 k5 "ValueError.__new__") ∧ PySem.HandSPX.refsVE bm = true := by
  unfold oexClsB at q
  split at q
  · rename_i dd cd sl ho
    split at q
    · rename_i C' bm k0 k1 k2 k3 n k5 hm hs
      simp only [Bool.and_eq_true, beq_iff_eq, Bool.not_eq_true'] at q
      obtain ⟨⟨⟨⟨e1, e2⟩, hdel⟩, hdict⟩, ht⟩ := q
      subst e1 e2
      obtain ⟨nm, bs, mro, ns, qn, hd, sn, sub, ab, col, del⟩ := cd
      dsimp only at hm hdel hdict
      subst hm hdel hdict
      have hsl : sl = #[k0, k1, k2, k3, some (.builtin "ValueError.__new__"), k5] := by
        obtain ⟨l⟩ := sl
        simp only at hs
        rw [hs]
      subst hsl
      exact ⟨nm, qn, ns, bs, bm, sn, sub, ab, col, dd, k0, k1, k2, k3, k5, ho, ht⟩
    · cases q
  · cases q
def excPB (K : PySem.W.Frag) (C : Addr) : Bool := oexClsB K C && (decide (PySem.W.findIn K (.ref C) "__setattr__" = some (some (.builtin "object.__setattr__"))) && (decide (PySem.W.subIn K (.ref C) (.type "BaseException") = some true) && (decide (PySem.W.typeIn K (.ref C) = some (.type "type")) &&
  (PySem.W.keepIn K (.ref C) && decide (PySem.W.findIn K (.ref C) "place" = some none)))))
theorem excPB_ok {K : PySem.W.Frag} {C : Addr} (h : excPB K C = true) : OexC K C ∧ PySem.W.findIn K (.ref C) "place" = some none := by
  obtain ⟨h1, h⟩ := Bool.and_eq_true_iff.mp h
  obtain ⟨h2, h⟩ := Bool.and_eq_true_iff.mp h
  obtain ⟨h3, h⟩ := Bool.and_eq_true_iff.mp h
  obtain ⟨h4, h⟩ := Bool.and_eq_true_iff.mp h
  obtain ⟨h5, h6⟩ := Bool.and_eq_true_iff.mp h
  exact ⟨⟨oexCls_ok h1, of_decide_eq_true h2, of_decide_eq_true h3, of_decide_eq_true h4, h5⟩, of_decide_eq_true h6⟩
def isVeInit : Option PySem.W.CFound → Bool
  | some (.val (.builtin s)) => s == "ValueError.__init__"
  | _ => false
theorem isVeInit_ok : ∀ {r : Option PySem.W.CFound}, isVeInit r = true → r = some (.val (.builtin "ValueError.__init__")) := fun {r} h => by
  unfold isVeInit at h
  split at h
  · rw [beq_iff_eq.mp h]
  · cases h
def excBB (K : PySem.W.Frag) (CE : Addr) : Bool := decide (PySem.W.specialIn K (.ref CE) "__getattribute__" = some (some (.builtin "type.__getattribute__"))) && (PySem.W.readsIn K CE (.type "type") && isVeInit (PySem.W.findCls K (.ref CE) (.type "type") "__init__"))
theorem excBB_ok {K : PySem.W.Frag} {mg : Str → Option Value} {CE : Addr} (h : excBB K CE = true) (g : mg "ColumnError" = some (.ref CE)) : ExcB K mg CE := by
  obtain ⟨h1, h⟩ := Bool.and_eq_true_iff.mp h
  obtain ⟨h2, h3⟩ := Bool.and_eq_true_iff.mp h
  exact ⟨g, of_decide_eq_true h1, h2, isVeInit_ok h3⟩
end K3

set_option Elab.async false
set_option linter.all false
set_option maxRecDepth 100000
set_option maxHeartbeats 4000000
/-! KH: a head that also looks at the interpreter's statics (a class's attributes are read over them) -/
namespace K3
open PySem PySem.Spec PyProof.Rows L2
/-- what the names reach, and the statics -/
def asY (g : Addr → Option Obj) (n : Nat) : List Addr := He.asD g n ++ [cStatics]
abbrev frY (g : Addr → Option Obj) (n : Nat) : PySem.W.Frag := He.frT g (asY g n)
def obsY (n : Nat) (fa : List He.Fa) (fn : List He.DefD) (ts : List He.Tab) (tf : List He.Defn) (ex : PySem.W.Frag → Bool) (g : Addr → Option Obj) : He.AlX := (He.obsT fa fn ts (frY g n), ex (frY g n) && He.tabsB g tf (frY g n))
theorem saysY_of {n : Nat} {fa : List He.Fa} {fn : List He.DefD} {ts : List He.Tab} {tf : List He.Defn} {ex : PySem.W.Frag → Bool} {w : World} {h : Heap} (e : obsY n fa fn ts tf ex h.get? = He.valX fn ts w) : He.SaysX fa fn ts tf ex w h (frY h.get? n) := by
  have e1 : He.obsT fa fn ts (frY h.get? n) = He.valT fn ts w := congrArg Prod.fst e
  have e2 : (ex (frY h.get? n) && He.tabsB h.get? tf (frY h.get? n)) = true := congrArg Prod.snd e
  obtain ⟨h1, h2⟩ := Bool.and_eq_true_iff.mp e2
  have key : ∀ p ∈ tf, PySem.W.codeHdIn (frY h.get? n) (He.cT (frY h.get? n) p).1 (He.cT (frY h.get? n) p).2 = true ∧ ∃ o, h.get? (He.cT (frY h.get? n) p).2 = some o ∧ He.emptyTab o = true := fun p hp => by
    obtain ⟨h3, h4⟩ := Bool.and_eq_true_iff.mp (List.all_eq_true.mp h2 p hp)
    refine ⟨h3, ?_⟩
    cases q : h.get? (He.cT (frY h.get? n) p).2 with
    | none =>
      rw [q] at h4
      cases h4
    | some o =>
      rw [q] at h4
      exact ⟨o, rfl, h4⟩
  refine ⟨e1, h1, fun p hp => (key p hp).1, fun p hp => ?_, fun p hp => ?_⟩
  · obtain ⟨_, o, q, z⟩ := key p hp
    exact He.frT_none q z
  · obtain ⟨_, o, q, z⟩ := key p hp
    rw [q, He.emptyTab_eq z]
def hookY (n : Nat) (fa : List He.Fa) (fn : List He.DefD) (ts : List He.Tab) (tf : List He.Defn) (ex : PySem.W.Frag → Bool) : PySem.W.Hook where
  α := He.AlX
  obs := fun s => obsY n fa fn ts tf ex s.heap.get?
  val := fun w => He.valX fn ts w
  says := fun w h => ∃ K : PySem.W.Frag, K.In h ∧ He.SaysX fa fn ts tf ex w h K
  of := fun _ _ e => ⟨_, He.frT_in, saysY_of e⟩
  keeps := fun _ _ _ ⟨K, hK, c⟩ k => ⟨K, PySem.W.Frag.In.keeps hK k, ⟨c.t, c.more, c.hd, c.out, fun p hp => k _ _ (c.empty p hp)⟩⟩
theorem obsY_eq {n : Nat} {fa : List He.Fa} {fn : List He.DefD} {ts : List He.Tab} {tf : List He.Defn} {ex : PySem.W.Frag → Bool} {g : Addr → Option Obj} {s : Shared} (h : ∀ a, g a = s.heap.get? a) : obsY n fa fn ts tf ex g = (hookY n fa fn ts tf ex).obs s := by
  have e : g = s.heap.get? := funext h
  rw [e] <;> rfl
end K3

set_option Elab.async false
set_option linter.all false
set_option maxRecDepth 100000
set_option maxHeartbeats 4000000
/-! KS: what changes and what doesn't: things with the objects that are theirs, side by side -/
namespace K3
open PySem PySem.Spec PyProof.Rows L2
/-- tuples stay -/
def SmT (H H' : Hp) : Prop := ∀ b o, H b = some o → ((∃ xs, o = .tup xs) ∨ ∃ ob xs, o = .frz ob (.tup xs)) → H' b = some o
theorem SmT.of {H H' : Hp} (s : Same H H') : SmT H H' := fun b o e _ => s b o e
theorem SmT.refl (H : Hp) : SmT H H := fun _ _ e _ => e
theorem SmT.trans {H H1 H2 : Hp} (a : SmT H H1) (b : SmT H1 H2) : SmT H H2 := fun c o e h => b c o (a c o e h) h
theorem SmT.seqT {K : PySem.W.Frag} {H H' : Hp} {a : Addr} {xs : List V} (s : SmT H H') (h : SqT K H a xs) : SqT K H' a xs := by
  rcases h with (h | ⟨ob, h⟩) | h
  · exact .inl (.inl (s _ _ h (.inl ⟨xs, rfl⟩)))
  · exact .inl (.inr ⟨ob, s _ _ h (.inr ⟨ob, xs, rfl⟩)⟩)
  · exact .inr h
theorem SmT.ext {H H' : Hp} (e : LamX.ExtN H H') : SmT H H' := fun b o h k => e b o h fun ps z => by
  rcases k with ⟨xs, k⟩ | ⟨ob, xs, k⟩ <;> rw [k] at z <;> cases z
/-! ### what may change -/
def Mutb (o : HO) : Prop := (∃ xs, o = .lst xs) ∨ (∃ C dx fs, o = .ins C dx fs) ∨ (∃ a, o = .own a) ∨ (∃ k, o = .dK k) ∨ (∃ k, o = .dT k)
theorem Mutb.lst {xs : List V} : Mutb (.lst xs) := .inl ⟨xs, rfl⟩
theorem Mutb.ins {C dx : Addr} {fs : List (Str × V)} : Mutb (.ins C dx fs) := .inr (.inl ⟨C, dx, fs, rfl⟩)
theorem Mutb.own {a : Addr} : Mutb (.own a) := .inr (.inr (.inl ⟨a, rfl⟩))
theorem Mutb.dK {k : List (Key × V)} : Mutb (.dK k) := .inr (.inr (.inr (.inl ⟨k, rfl⟩)))
theorem code_own {c a : Addr} {q : Str} : LamX.CodeO c q ≠ .own a := fun z => by
  unfold LamX.CodeO at z
  cases z
theorem code_dT {c : Addr} {q : Str} {k} : LamX.CodeO c q ≠ .dT k := fun z => by
  unfold LamX.CodeO at z
  cases z
theorem Mutb.not {o : HO} (m : Mutb o) : (∀ xs, o ≠ .tup xs) ∧ (∀ ob xs, o ≠ .frz ob xs) ∧ (∀ ps, o ≠ .tbl ps) ∧ ∀ c q, o ≠ LamX.CodeO c q := by
  rcases m with ⟨xs, rfl⟩ | ⟨C, dx, fs, rfl⟩ | ⟨a, rfl⟩ | ⟨k, rfl⟩ | ⟨k, rfl⟩
  · exact ⟨fun _ z => (by cases z), fun _ _ z => (by cases z), fun _ z => (by cases z), fun _ _ z => code_lst z.symm⟩
  · exact ⟨fun _ z => (by cases z), fun _ _ z => (by cases z), fun _ z => (by cases z), fun _ _ z => code_ins z.symm⟩
  · exact ⟨fun _ z => (by cases z), fun _ _ z => (by cases z), fun _ z => (by cases z), fun _ _ z => code_own z.symm⟩
  · exact ⟨fun _ z => (by cases z), fun _ _ z => (by cases z), fun _ z => (by cases z), fun _ _ z => code_dK z.symm⟩
  · exact ⟨fun _ z => (by cases z), fun _ _ z => (by cases z), fun _ z => (by cases z), fun _ _ z => code_dT z.symm⟩
def MutAt (H : Hp) (q : Addr) : Prop := ∃ o, H q = some o ∧ Mutb o
theorem MutAt.of {H : Hp} {q : Addr} {o : HO} (h : H q = some o) (m : Mutb o) : MutAt H q := ⟨o, h, m⟩
theorem MutAt.no {H : Hp} {q : Addr} (h : H q = none) : ¬ MutAt H q := fun ⟨_, e, _⟩ => by
  rw [h] at e
  cases e
abbrev Foot := Addr → Prop
/-- all stays beside F, but tables; T's tables stay tables -/
structure Mv (T : List (Addr × Str)) (F : Foot) (H H' : Hp) : Prop where
  out : ∀ q o, ¬ F q → H q = some o → (∀ ps, o ≠ .tbl ps) → H' q = some o
  tabs : LamX.Tabs T H → LamX.Tabs T H'
theorem Mv.refl {T : List (Addr × Str)} {F : Foot} {H : Hp} : Mv T F H H := ⟨fun _ _ _ e _ => e, fun t => t⟩
theorem Mv.trans {T : List (Addr × Str)} {F : Foot} {H H1 H2 : Hp} (a : Mv T F H H1) (b : Mv T F H1 H2) : Mv T F H H2 := ⟨fun q o n e t => b.out q o n (a.out q o n e t) t, fun t => b.tabs (a.tabs t)⟩
theorem Mv.same {T : List (Addr × Str)} {F : Foot} {H H' : Hp} (s : Same H H') : Mv T F H H' := ⟨fun q o _ e _ => s q o e, fun t => tabs_same t s⟩
theorem Mv.ext {T : List (Addr × Str)} {F : Foot} {H H' : Hp} (s : LamX.ExtN H H') (t : LamX.Tabs T H') : Mv T F H H' := ⟨fun q o _ e n => s q o e n, fun _ => t⟩
theorem Mv.of {T : List (Addr × Str)} {F : Foot} {H H' : Hp} (m : ∀ q, F q → MutAt H q) (o : ∀ q o, ¬ F q → H q = some o → H' q = some o) : Mv T F H H' := by
  refine ⟨fun q u n e _ => o q u n e, fun t => tabs_to t fun b u e k => o b u (fun hf => ?_) e⟩
  obtain ⟨u', e', mu⟩ := m b hf
  rw [e] at e'
  obtain rfl := Option.some.inj e'
  obtain ⟨_, _, n1, n2⟩ := mu.not
  rcases k with ⟨ps, k⟩ | ⟨c, q, k⟩
  · exact n1 ps k
  · exact n2 c q k
/-- a change at one place -/
theorem Mv.upd {T : List (Addr × Str)} {F : Foot} {H : Hp} {p : Addr} {o : HO} (hp : F p) (m : MutAt H p) : Mv T F H (L2.upd H p o) := by
  obtain ⟨o0, h0, m0⟩ := m
  obtain ⟨_, _, n1, n2⟩ := m0.not
  exact ⟨fun q u n e _ => (upd_ne fun z => n (by rw [z]; exact hp)).trans e, fun t => tabs_put t h0 (fun ps z => n1 ps z.symm) fun c q z => n2 c q z.symm⟩
theorem Mv.new {T : List (Addr × Str)} {F : Foot} {H : Hp} {p : Addr} {o : HO} (n : H p = none) : Mv T F H (L2.upd H p o) := .same (Same.upd n)
theorem Mv.wide {T : List (Addr × Str)} {F F' : Foot} {H H' : Hp} (m : Mv T F H H') (h : ∀ q, F q → F' q ∨ ¬ MutAt H q) (mu : ∀ q, F q → MutAt H q) : Mv T F' H H' := ⟨fun q o n e t => m.out q o (fun f => (h q f).elim n fun z => z (mu q f)) e t, m.tabs⟩
theorem Mv.smT {T : List (Addr × Str)} {F : Foot} {H H' : Hp} (m : Mv T F H H') (mu : ∀ q, F q → MutAt H q) : SmT H H' := fun b o e k => by
  refine m.out b o (fun f => ?_) e fun ps z => ?_
  · obtain ⟨o', e', m'⟩ := mu b f
    rw [e] at e'
    obtain rfl := Option.some.inj e'
    obtain ⟨n1, n2, _⟩ := m'.not
    rcases k with ⟨xs, k⟩ | ⟨ob, xs, k⟩
    · exact n1 xs k
    · exact n2 _ _ k
  · rcases k with ⟨xs, k⟩ | ⟨ob, xs, k⟩ <;> rw [k] at z <;> cases z
/-! ### things -/
structure Thing where
  R : Hp → Foot → Prop
  mt : ∀ {H F}, R H F → ∀ q, F q → MutAt H q
  loc : ∀ {H H' F}, R H F → (∀ q o, F q → H q = some o → H' q = some o) → SmT H H' → R H' F
/-- side by side -/
def Holds : List Thing → Hp → Foot → Prop
  | [], _, F => ∀ q, ¬ F q
  | A :: As, H, F => ∃ F1 F2, A.R H F1 ∧ Holds As H F2 ∧ (∀ q, F1 q → ¬ F2 q) ∧ ∀ q, F q ↔ F1 q ∨ F2 q
theorem Holds.mut : ∀ {As : List Thing} {H : Hp} {F : Foot}, Holds As H F → ∀ q, F q → MutAt H q
  | [], _, _, h, q, f => absurd f (h q)
  | A :: As, H, F, ⟨F1, F2, a, b, _, e⟩, q, f => by
    rcases (e q).mp f with f | f
    · exact A.mt a q f
    · exact Holds.mut b q f
theorem Holds.loc : ∀ {As : List Thing} {H H' : Hp} {F : Foot}, Holds As H F → (∀ q o, F q → H q = some o → H' q = some o) → SmT H H' → Holds As H' F
  | [], _, _, _, h, _, _ => h
  | A :: As, H, H', F, ⟨F1, F2, a, b, d, e⟩, k, s => ⟨F1, F2, A.loc a (fun q o f => k q o ((e q).mpr (.inl f))) s, Holds.loc b (fun q o f => k q o ((e q).mpr (.inr f))) s, d, e⟩
theorem Holds.feq : ∀ {As : List Thing} {H : Hp} {F F' : Foot}, Holds As H F → (∀ q, F q ↔ F' q) → Holds As H F'
  | [], _, _, _, h, e => fun q f => h q ((e q).mpr f)
  | A :: As, H, F, F', ⟨F1, F2, a, b, d, e⟩, k => ⟨F1, F2, a, b, d, fun q => (k q).symm.trans (e q)⟩
theorem Holds.perm {As Bs : List Thing} {H : Hp} (p : As.Perm Bs) : ∀ {F : Foot}, Holds As H F → Holds Bs H F := by
  induction p with
  | nil => exact fun h => h
  | cons A _ ih => exact fun ⟨F1, F2, a, b, d, e⟩ => ⟨F1, F2, a, ih b, d, e⟩
  | swap A B l =>
    rintro F ⟨F1, F2, a, ⟨F3, F4, b, c, d2, e2⟩, d, e⟩
    refine ⟨F3, fun q => F1 q ∨ F4 q, b, ⟨F1, F4, a, c, fun q f1 f4 => d q f1 ((e2 q).mpr (.inr f4)), fun q => Iff.rfl⟩, fun q f3 f => ?_, fun q => ?_⟩
    · rcases f with f | f
      · exact d q f ((e2 q).mpr (.inl f3))
      · exact d2 q f3 f
    · rw [e q, e2 q]
      constructor
      · rintro (h | h | h)
        · exact .inr (.inl h)
        · exact .inl h
        · exact .inr (.inr h)
      · rintro (h | h | h)
        · exact .inr (.inl h)
        · exact .inl h
        · exact .inr (.inr h)
  | trans _ _ ih1 ih2 => exact fun h => ih2 (ih1 h)
theorem Holds.app : ∀ {As Bs : List Thing} {H : Hp} {F : Foot}, Holds (As ++ Bs) H F ↔ ∃ F1 F2, Holds As H F1 ∧ Holds Bs H F2 ∧ (∀ q, F1 q → ¬ F2 q) ∧ ∀ q, F q ↔ F1 q ∨ F2 q
  | [], Bs, H, F => by
    constructor
    · exact fun h => ⟨fun _ => False, F, fun q f => f, h, fun q f => f.elim, fun q => ⟨.inr, fun z => z.elim False.elim id⟩⟩
    · rintro ⟨F1, F2, n, h, _, e⟩
      exact h.feq fun q => ⟨fun f => (e q).mpr (.inr f), fun f => ((e q).mp f).elim (fun z => absurd z (n q)) id⟩
  | A :: As, Bs, H, F => by
    constructor
    · rintro ⟨F1, F2, a, h, d, e⟩
      obtain ⟨G1, G2, h1, h2, d2, e2⟩ := Holds.app.mp h
      refine ⟨fun q => F1 q ∨ G1 q, G2, ⟨F1, G1, a, h1, fun q f g => d q f ((e2 q).mpr (.inl g)), fun q => Iff.rfl⟩, h2, fun q f g => ?_, fun q => ?_⟩
      · rcases f with f | f
        · exact d q f ((e2 q).mpr (.inr g))
        · exact d2 q f g
      · rw [e q, e2 q, or_assoc]
    · rintro ⟨F12, F3, ⟨F1, F2, a, h1, d, e⟩, h2, d2, e2⟩
      refine ⟨F1, fun q => F2 q ∨ F3 q, a, Holds.app.mpr ⟨F2, F3, h1, h2, fun q f => d2 q ((e q).mpr (.inr f)), fun q => Iff.rfl⟩, fun q f g => ?_, fun q => ?_⟩
      · rcases g with g | g
        · exact d q f g
        · exact d2 q ((e q).mpr (.inl f)) g
      · rw [e2 q, e q, or_assoc]
/-! ### a state: from H0, where F0 was theirs, these things -/
structure St (T : List (Addr × Str)) (H0 : Hp) (F0 : Foot) (As : List Thing) (H : Hp) : Prop where
  ex : ∃ F, Holds As H F ∧ ∀ q, F q → F0 q ∨ ¬ MutAt H0 q
  mv : Mv T F0 H0 H
  tabs : LamX.Tabs T H
section
variable {T : List (Addr × Str)} {H0 H H' : Hp} {F0 : Foot} {As Bs Cs Ds : List Thing}
theorem St.start (h : Holds As H F0) (t : LamX.Tabs T H) : St T H F0 As H := ⟨⟨F0, h, fun _ f => .inl f⟩, .refl, t⟩
theorem sub_trans {F0 F1 F2 : Foot} {H0 H1 : Hp} (m : Mv T F0 H0 H1) (a : ∀ q, F1 q → F0 q ∨ ¬ MutAt H0 q) (b : ∀ q, F2 q → F1 q ∨ ¬ MutAt H1 q) : ∀ q, F2 q → F0 q ∨ ¬ MutAt H0 q := fun q f => by
  rcases b q f with f | n
  · exact a q f
  · by_cases f0 : F0 q
    · exact .inl f0
    · refine .inr fun ⟨o, e, mo⟩ => n ⟨o, m.out q o f0 e fun ps z => ?_, mo⟩
      exact mo.not.2.2.1 ps z
/-- Cs of them are moved to Bs; the rest stays -/
theorem St.step (h : St T H0 F0 As H) (p : As.Perm (Cs ++ Ds)) : ∃ F1, Holds Cs H F1 ∧ ∀ {Bs H'}, St T H F1 Bs H' → St T H0 F0 (Bs ++ Ds) H' ∧ SmT H H' := by
  obtain ⟨⟨F, hF, sub⟩, mv, tb⟩ := h
  obtain ⟨F1, F2, h1, h2, d, e⟩ := Holds.app.mp (hF.perm p)
  refine ⟨F1, h1, fun {Bs H'} ⟨⟨F1', h1', sub1⟩, mv1, tb1⟩ => ?_⟩
  have sm : SmT H H' := mv1.smT h1.mut
  have m2 := h2.mut
  have h2' : Holds Ds H' F2 := h2.loc (fun q o f e1 => mv1.out q o (fun f1 => d q f1 f) e1 fun ps z => by
    obtain ⟨o', e', m'⟩ := m2 q f
    rw [e1] at e'
    obtain rfl := Option.some.inj e'
    exact m'.not.2.2.1 ps z) sm
  have dis : ∀ q, F1' q → ¬ F2 q := fun q f1 f2 => by
    rcases sub1 q f1 with z | z
    · exact d q z f2
    · exact z (m2 q f2)
  refine ⟨⟨⟨fun q => F1' q ∨ F2 q, Holds.app.mpr ⟨F1', F2, h1', h2', dis, fun q => Iff.rfl⟩, ?_⟩, ⟨fun q o n e0 t => ?_, fun t => mv1.tabs (mv.tabs t)⟩, tb1⟩, sm⟩
  · refine sub_trans mv sub fun q f => ?_
    rcases f with f | f
    · rcases sub1 q f with z | z
      · exact .inl ((e q).mpr (.inl z))
      · exact .inr z
    · exact .inl ((e q).mpr (.inr f))
  · have e1 := mv.out q o n e0 t
    refine mv1.out q o (fun f1 => ?_) e1 t
    rcases sub q ((e q).mpr (.inl f1)) with z | z
    · exact n z
    · obtain ⟨o', e', m'⟩ := h1.mut q f1
      rw [e1] at e'
      obtain rfl := Option.some.inj e'
      exact z ⟨_, e0, m'⟩
/-- what has moved ahead: SmT from the beginning -/
theorem St.smT (h : St T H0 F0 As H) (m : ∀ q, F0 q → MutAt H0 q) : SmT H0 H := h.mv.smT m
theorem St.same (h : St T H0 F0 As H) (s : Same H H') : St T H0 F0 As H' := by
  obtain ⟨⟨F, hF, sub⟩, mv, tb⟩ := h
  exact ⟨⟨F, hF.loc (fun q o _ e => s q o e) (.of s), sub⟩, mv.trans (.same s), tabs_same tb s⟩
theorem St.ext (h : St T H0 F0 As H) (s : LamX.ExtN H H') (t : LamX.Tabs T H') : St T H0 F0 As H' := by
  obtain ⟨⟨F, hF, sub⟩, mv, tb⟩ := h
  refine ⟨⟨F, hF.loc (fun q o f e => s q o e fun ps z => ?_) (.ext s), sub⟩, mv.trans (.ext s t), t⟩
  obtain ⟨o', e', m'⟩ := hF.mut q f
  rw [e] at e'
  obtain rfl := Option.some.inj e'
  exact m'.not.2.2.1 ps z
theorem St.perm (h : St T H0 F0 As H) (p : As.Perm Bs) : St T H0 F0 Bs H := by
  obtain ⟨⟨F, hF, sub⟩, mv, tb⟩ := h
  exact ⟨⟨F, hF.perm p, sub⟩, mv, tb⟩
/-- the first ones only -/
theorem St.drop (h : St T H0 F0 (As ++ Bs) H) : St T H0 F0 As H := by
  obtain ⟨⟨F, hF, sub⟩, mv, tb⟩ := h
  obtain ⟨F1, F2, h1, h2, d, e⟩ := Holds.app.mp hF
  exact ⟨⟨F1, h1, fun q f => sub q ((e q).mpr (.inl f))⟩, mv, tb⟩
/-- by places -/
def nilT : Thing := ⟨fun _ F => ∀ q, ¬ F q, fun h q f => absurd f (h q), fun h _ _ => h⟩
def pick (As : List Thing) (is : List Nat) : List Thing := is.map fun i => As.getD i nilT
theorem pick_all : ∀ (As : List Thing), pick As (List.range As.length) = As := fun As => by
  unfold pick
  refine List.ext_getElem? fun i => ?_
  rw [List.getElem?_map]
  by_cases c : i < As.length
  · rw [List.getElem?_range c, List.getElem?_eq_getElem c]
    show some (As.getD i nilT) = _
    rw [List.getD_eq_getElem?_getD, List.getElem?_eq_getElem c] <;> rfl
  · rw [List.getElem?_eq_none (by rw [List.length_range]; omega), List.getElem?_eq_none (by omega)] <;> rfl
theorem pick_perm {is : List Nat} (p : is.Perm (List.range As.length)) : As.Perm (pick As is) := by
  have := (p.symm.map fun i => As.getD i nilT)
  rw [show (List.range As.length).map (fun i => As.getD i nilT) = As from pick_all As] at this
  exact this
theorem St.order (h : St T H0 F0 As H) (is : List Nat) (p : is.isPerm (List.range As.length) = true) : St T H0 F0 (pick As is) H := h.perm (pick_perm (List.isPerm_iff.mp p))
/-- a call that takes the things at is; js are the others -/
theorem St.call (h : St T H0 F0 As H) (is js : List Nat) (p : (is ++ js).isPerm (List.range As.length) = true) : ∃ F1, Holds (pick As is) H F1 ∧ ∀ {Bs H'}, St T H F1 Bs H' → St T H0 F0 (Bs ++ pick As js) H' ∧ SmT H H' := by
  refine h.step ((pick_perm (List.isPerm_iff.mp p)).trans ?_)
  unfold pick
  rw [List.map_append]
/-- one thing is changed -/
theorem St.turn {A B : Thing} (h : St T H0 F0 (A :: As) H) (k : ∀ F1, A.R H F1 → (∀ q, F1 q → MutAt H q) → ∃ F2, B.R H' F2 ∧ Mv T F1 H H' ∧ ∀ q, F2 q → F1 q ∨ ¬ MutAt H q) : St T H0 F0 (B :: As) H' ∧ SmT H H' := by
  obtain ⟨F1, h1, c⟩ := h.step (Cs := [A]) (Ds := As) (.refl _)
  have m1 := Holds.mut h1
  obtain ⟨G1, G2, a, n, d, e⟩ := h1
  have e' : ∀ q, G1 q ↔ F1 q := fun q => ⟨fun f => (e q).mpr (.inl f), fun f => ((e q).mp f).elim id fun z => absurd z (n q)⟩
  obtain ⟨F2, b, m, s⟩ := k G1 a fun q f => m1 q ((e' q).mp f)
  refine c (Bs := [B]) ⟨⟨F2, ⟨F2, fun _ => False, b, fun q f => f, fun q _ f => f, fun q => ⟨.inl, fun z => z.elim id False.elim⟩⟩, fun q f => ?_⟩, ⟨fun q o f e0 t => m.out q o (fun g => f ((e' q).mp g)) e0 t, m.tabs⟩, m.tabs h.tabs⟩
  rcases s q f with z | z
  · exact .inl ((e' q).mp z)
  · exact .inr z
/-- a thing as another one sees it -/
theorem St.see {A B : Thing} (h : St T H0 F0 (A :: As) H) (k : ∀ F1, A.R H F1 → B.R H F1) : St T H0 F0 (B :: As) H :=
  (h.turn (B := B) (H' := H) fun F1 a m => ⟨F1, k F1 a, .refl, fun q f => .inl f⟩).1
theorem St.get {A : Thing} (h : St T H0 F0 (A :: As) H) : ∃ F1, A.R H F1 ∧ ∀ q, F1 q → MutAt H q := by
  obtain ⟨⟨F, ⟨F1, F2, a, _⟩, _⟩, _⟩ := h
  exact ⟨F1, a, A.mt a⟩
/-- a new thing, in objects that were none of the things -/
theorem St.add {A : Thing} (h : St T H0 F0 As H) (s : Same H H') (k : ∃ F1, A.R H' F1 ∧ ∀ q, F1 q → H q = none) : St T H0 F0 (A :: As) H' := by
  obtain ⟨⟨F, hF, sub⟩, mv, tb⟩ := h
  obtain ⟨F1, a, n⟩ := k
  refine ⟨⟨fun q => F1 q ∨ F q, ⟨F1, F, a, hF.loc (fun q o _ e => s q o e) (.of s), fun q f1 f => ?_, fun q => Iff.rfl⟩, fun q f => ?_⟩, mv.trans (.same s), tabs_same tb s⟩
  · exact MutAt.no (n q f1) (hF.mut q f)
  · rcases f with f | f
    · by_cases f0 : F0 q
      · exact .inl f0
      · refine .inr fun ⟨o, e, mo⟩ => ?_
        have := mv.out q o f0 e fun ps z => mo.not.2.2.1 ps z
        rw [n q f] at this
        cases this
    · exact sub q f
end
/-! ### a list -/
def lstT (p : Addr) (xs : List V) : Thing := ⟨fun H F => H p = some (.lst xs) ∧ ∀ q, F q ↔ q = p, fun ⟨h, e⟩ q f => ((e q).mp f) ▸ ⟨_, h, .lst⟩, fun ⟨h, e⟩ k _ => ⟨k p _ ((e p).mpr rfl) h, e⟩⟩
section
variable {T : List (Addr × Str)} {H0 H H' : Hp} {F0 : Foot} {As : List Thing} {p : Addr} {xs ys : List V}
theorem St.new (h : St T H0 F0 As H) (n : H p = none) : St T H0 F0 (lstT p xs :: As) (L2.upd H p (.lst xs)) := h.add (Same.upd n) ⟨fun q => q = p, ⟨upd_same, fun q => Iff.rfl⟩, fun q e => e ▸ n⟩
/-- a list that is new in a heap that is the same otherwise -/
theorem St.new' (h : St T H0 F0 As H) (s : Same H H') (n : H p = none) (e : H' p = some (.lst xs)) : St T H0 F0 (lstT p xs :: As) H' := h.add s ⟨fun q => q = p, ⟨e, fun q => Iff.rfl⟩, fun q e => e ▸ n⟩
theorem St.lst (h : St T H0 F0 (lstT p xs :: As) H) : H p = some (.lst xs) := by
  obtain ⟨F1, ⟨a, _⟩, _⟩ := h.get
  exact a
theorem St.put (h : St T H0 F0 (lstT p xs :: As) H) : St T H0 F0 (lstT p ys :: As) (L2.upd H p (.lst ys)) :=
  (h.turn (B := lstT p ys) fun F1 ⟨a, e⟩ m => ⟨F1, ⟨upd_same, e⟩, .upd ((e p).mpr rfl) ⟨_, a, .lst⟩, fun q f => .inl f⟩).1
end
end K3

set_option Elab.async false
set_option linter.all false
set_option maxRecDepth 100000
set_option maxHeartbeats 4000000
/-! KDt: data: numbers, texts, truths, None and tuples of such; what stands for which; the box as a thing -/
namespace K3
open PySem PySem.Spec PyProof.Rows L2
inductive Dat where
  | non
  | bl (b : Bool)
  | int (i : Int)
  | str (z : Str)
  | tup (ds : List Dat)
inductive Is (K : PySem.W.Frag) (H : Hp) : V → Dat → Prop where
  | non : Is K H .non .non
  | bl (b : Bool) : Is K H (.bl b) (.bl b)
  | int (i : Int) : Is K H (.int i) (.int i)
  | str (z : Str) : Is K H (.str z) (.str z)
  | tup {a : Addr} {xs : List V} {ds : List Dat} (h : SqT K H a xs) (l : xs.length = ds.length) (e : ∀ (i : Nat) (x : V) (d : Dat), xs[i]? = some x → ds[i]? = some d → Is K H x d) : Is K H (.ref a) (.tup ds)
section
variable {K : PySem.W.Frag} {H H' : Hp}
theorem Is.keep {v : V} {d : Dat} (h : Is K H v d) (s : SmT H H') : Is K H' v d := by
  induction h with
  | non => exact .non
  | bl b => exact .bl b
  | int i => exact .int i
  | str z => exact .str z
  | tup h l _ ih => exact .tup (s.seqT h) l ih
theorem Is.same {v : V} {d : Dat} (h : Is K H v d) (s : Same H H') : Is K H' v d := h.keep (.of s)
/-- lists of such -/
def Iss (K : PySem.W.Frag) (H : Hp) (xs : List V) (ds : List Dat) : Prop := xs.length = ds.length ∧ ∀ (i : Nat) (x : V) (d : Dat), xs[i]? = some x → ds[i]? = some d → Is K H x d
theorem Iss.keep {xs : List V} {ds : List Dat} (h : Iss K H xs ds) (s : SmT H H') : Iss K H' xs ds := ⟨h.1, fun i x d a b => (h.2 i x d a b).keep s⟩
theorem Iss.same {xs : List V} {ds : List Dat} (h : Iss K H xs ds) (s : Same H H') : Iss K H' xs ds := h.keep (.of s)
theorem Iss.nil : Iss K H [] [] := ⟨rfl, fun _ _ _ a => by cases a⟩
theorem Iss.cons {x : V} {d : Dat} {xs : List V} {ds : List Dat} (h : Is K H x d) (t : Iss K H xs ds) : Iss K H (x :: xs) (d :: ds) := by
  refine ⟨by rw [List.length_cons, List.length_cons, t.1], fun i y e a b => ?_⟩
  cases i with
  | zero =>
    cases a
    cases b
    exact h
  | succ i => exact t.2 i y e a b
theorem Iss.uncons {x : V} {xs : List V} {d : Dat} {ds : List Dat} (h : Iss K H (x :: xs) (d :: ds)) : Is K H x d ∧ Iss K H xs ds := by
  have := h.1
  exact ⟨h.2 0 x d rfl rfl, by simpa using this, fun i y e a b => h.2 (i + 1) y e a b⟩
theorem Iss.get {xs : List V} {ds : List Dat} (h : Iss K H xs ds) {i : Nat} {x : V} (hx : xs[i]? = some x) : ∃ d, ds[i]? = some d ∧ Is K H x d := by
  have hi := (List.getElem?_eq_some_iff.mp hx).1
  have hd : ds[i]? = some (ds[i]'(by rw [← h.1]; exact hi)) := List.getElem?_eq_getElem _
  exact ⟨_, hd, h.2 i x _ hx hd⟩
theorem Iss.to {xs : List V} {ds : List Dat} (h : Iss K H xs ds) {i : Nat} {d : Dat} (hd : ds[i]? = some d) : ∃ x, xs[i]? = some x ∧ Is K H x d := by
  have hi := (List.getElem?_eq_some_iff.mp hd).1
  have hx : xs[i]? = some (xs[i]'(by rw [h.1]; exact hi)) := List.getElem?_eq_getElem _
  exact ⟨_, hx, h.2 i _ d hx hd⟩
theorem Iss.app {xs ys : List V} {ds es : List Dat} (h : Iss K H xs ds) (t : Iss K H ys es) : Iss K H (xs ++ ys) (ds ++ es) := by
  refine ⟨by rw [List.length_append, List.length_append, h.1, t.1], fun i x d a b => ?_⟩
  by_cases c : i < xs.length
  · rw [List.getElem?_append_left c] at a
    rw [List.getElem?_append_left (by rw [← h.1]; exact c)] at b
    exact h.2 i x d a b
  · rw [List.getElem?_append_right (by omega)] at a
    rw [List.getElem?_append_right (by rw [← h.1]; omega), ← h.1] at b
    exact t.2 _ x d a b
theorem Iss.take {xs : List V} {ds : List Dat} (h : Iss K H xs ds) (n : Nat) : Iss K H (xs.take n) (ds.take n) := by
  refine ⟨by rw [List.length_take, List.length_take, h.1], fun i x d a b => ?_⟩
  rw [List.getElem?_take] at a b
  by_cases c : i < n
  · rw [if_pos c] at a b
    exact h.2 i x d a b
  · rw [if_neg c] at a
    cases a
theorem Iss.drop {xs : List V} {ds : List Dat} (h : Iss K H xs ds) (n : Nat) : Iss K H (xs.drop n) (ds.drop n) := by
  refine ⟨by rw [List.length_drop, List.length_drop, h.1], fun i x d a b => ?_⟩
  rw [List.getElem?_drop] at a b
  exact h.2 _ x d a b
theorem Iss.set {xs : List V} {ds : List Dat} {x : V} {d : Dat} (h : Iss K H xs ds) (n : Nat) (hx : Is K H x d) : Iss K H (xs.set n x) (ds.set n d) := by
  refine ⟨by rw [List.length_set, List.length_set, h.1], fun i y e a b => ?_⟩
  rw [List.getElem?_set] at a b
  by_cases c : n = i
  · rw [if_pos c] at a b
    by_cases l : n < xs.length
    · rw [if_pos l] at a
      rw [if_pos (by rw [← h.1]; exact l)] at b
      cases a
      cases b
      exact hx
    · rw [if_neg l] at a
      cases a
  · rw [if_neg c] at a b
    exact h.2 i y e a b
theorem Iss.rep (n : Nat) {x : V} {d : Dat} (hx : Is K H x d) : Iss K H (List.replicate n x) (List.replicate n d) := by
  refine ⟨by rw [List.length_replicate, List.length_replicate], fun i y e a b => ?_⟩
  obtain rfl := (List.mem_replicate.mp (List.mem_of_getElem? a)).2
  obtain rfl := (List.mem_replicate.mp (List.mem_of_getElem? b)).2
  exact hx
theorem is_tup {v : V} {ds : List Dat} (h : Is K H v (.tup ds)) : ∃ a xs, v = .ref a ∧ SqT K H a xs ∧ Iss K H xs ds := by
  cases h with
  | tup h l e => exact ⟨_, _, rfl, h, l, e⟩
theorem Iss.tup {a : Addr} {xs : List V} {ds : List Dat} (t : Iss K H xs ds) (h : SqT K H a xs) : Is K H (.ref a) (.tup ds) := .tup h t.1 t.2
/-- a new tuple -/
theorem Iss.made {p : Addr} {xs : List V} {ds : List Dat} (t : Iss K H xs ds) (n : H p = none) : Is K (L2.upd H p (.tup xs)) (.ref p) (.tup ds) := (t.same (Same.upd n)).tup (SqT.of upd_same)
end
/-! ### how deep, how wide, how heavy -/
inductive DOk : Nat → Dat → Prop where
  | non {n : Nat} : DOk n .non
  | bl {n : Nat} (b : Bool) : DOk n (.bl b)
  | int {n : Nat} (i : Int) : DOk n (.int i)
  | str {n : Nat} (z : Str) : DOk n (.str z)
  | tup {n : Nat} {ds : List Dat} (l : ds.length ≤ 10000) (e : ∀ d, d ∈ ds → DOk n d) : DOk (n + 1) (.tup ds)
theorem DOk.mono {n m : Nat} {d : Dat} (h : DOk n d) (l : n ≤ m) : DOk m d := by
  induction h generalizing m with
  | non => exact .non
  | bl b => exact .bl b
  | int i => exact .int i
  | str z => exact .str z
  | tup hl _ ih =>
    obtain ⟨k, rfl⟩ : ∃ k, m = k + 1 := ⟨m - 1, by omega⟩
    exact .tup hl fun d hd => ih d hd (by omega)
theorem alk_is {K : PySem.W.Frag} {H : Hp} {n : Nat} {d : Dat} (ok : DOk n d) : ∀ {x y : V}, Is K H x d → Is K H y d → Alk K H n x y := by
  induction ok with
  | non =>
    intro x y a b
    cases a
    cases b
    exact .non
  | bl t =>
    intro x y a b
    cases a
    cases b
    exact .bl t
  | int t =>
    intro x y a b
    cases a
    cases b
    exact .int t
  | str t =>
    intro x y a b
    cases a
    cases b
    exact .str t
  | tup l _ ih =>
    intro x y a b
    obtain ⟨p, xs, rfl, h1, i1⟩ := is_tup a
    obtain ⟨q, ys, rfl, h2, i2⟩ := is_tup b
    refine .tup h1 h2 (by rw [i1.1]; exact l) (i1.1.trans i2.1.symm) fun i x y hx hy => ?_
    obtain ⟨d, hd, dx⟩ := i1.get hx
    exact ih d (List.mem_of_getElem? hd) dx (i2.2 i y d hy hd)
/-- lists of such -/
theorem alk_iss {K : PySem.W.Frag} {H : Hp} {n : Nat} {a b : Addr} {xs ys : List V} {ds : List Dat} (ok : ∀ d, d ∈ ds → DOk n d) (l : ds.length ≤ 10000) (h1 : SqL K H a xs) (h2 : SqL K H b ys) (i1 : Iss K H xs ds) (i2 : Iss K H ys ds) : Alk K H (n + 1) (.ref a) (.ref b) := by
  refine .lst h1 h2 (by rw [i1.1]; exact l) (i1.1.trans i2.1.symm) fun i x y hx hy => ?_
  obtain ⟨d, hd, dx⟩ := i1.get hx
  exact alk_is (ok d (List.mem_of_getElem? hd)) dx (i2.2 i y d hy hd)
mutual
def Dat.weight : Dat → Nat
  | .tup ds => weights ds
  | _ => 1
def weights : List Dat → Nat
  | [] => 0
  | d :: ds => d.weight + weights ds
end
mutual
def Dat.size : Dat → Nat
  | .tup ds => 1 + sizes ds
  | _ => 1
def sizes : List Dat → Nat
  | [] => 0
  | d :: ds => d.size + sizes ds
end
theorem weights_app : ∀ (ds es : List Dat), weights (ds ++ es) = weights ds + weights es
  | [], es => by
    show weights es = 0 + weights es
    omega
  | d :: ds, es => by
    show d.weight + weights (ds ++ es) = d.weight + weights ds + weights es
    rw [weights_app ds es]
    omega
theorem sizes_app : ∀ (ds es : List Dat), sizes (ds ++ es) = sizes ds + sizes es
  | [], es => by
    show sizes es = 0 + sizes es
    omega
  | d :: ds, es => by
    show d.size + sizes (ds ++ es) = d.size + sizes ds + sizes es
    rw [sizes_app ds es]
    omega
theorem size_pos (d : Dat) : 1 ≤ d.size := by
  cases d <;> first | exact Nat.le_refl 1 | exact Nat.le_add_right 1 _
theorem sizes_len : ∀ (ds : List Dat), ds.length ≤ sizes ds
  | [] => Nat.le_refl 0
  | d :: ds => by
    have := sizes_len ds
    have := size_pos d
    show ds.length + 1 ≤ d.size + sizes ds
    omega
theorem weight_size : ∀ d : Dat, d.weight ≤ d.size := by
  have key : ∀ n : Nat, (∀ d : Dat, d.size ≤ n → d.weight ≤ d.size) ∧ ∀ ds : List Dat, sizes ds ≤ n → weights ds ≤ sizes ds := by
    intro n
    induction n with
    | zero =>
      refine ⟨fun d h => ?_, fun ds h => ?_⟩
      · have := size_pos d
        omega
      · cases ds with
        | nil => exact Nat.le_refl 0
        | cons d ds =>
          have : d.size + sizes ds ≤ 0 := h
          have := size_pos d
          omega
    | succ n ih =>
      have one : ∀ d : Dat, d.size ≤ n + 1 → d.weight ≤ d.size := fun d h => by
        cases d with
        | tup ds =>
          have h : 1 + sizes ds ≤ n + 1 := h
          have := ih.2 ds (by omega)
          show weights ds ≤ 1 + sizes ds
          omega
        | non => exact Nat.le_refl 1
        | bl b => exact Nat.le_refl 1
        | int i => exact Nat.le_refl 1
        | str z => exact Nat.le_refl 1
      refine ⟨one, fun ds h => ?_⟩
      induction ds with
      | nil => exact Nat.le_refl 0
      | cons d ds ih2 =>
        have h : d.size + sizes ds ≤ n + 1 := h
        have a := one d (by omega)
        have b := ih2 (by omega)
        show d.weight + weights ds ≤ d.size + sizes ds
        omega
  exact fun d => (key d.size).1 d (Nat.le_refl _)
/-! ### a list of data; a list of truths; the box -/
def datT (K : PySem.W.Frag) (p : Addr) (ds : List Dat) : Thing := ⟨fun H F => ∃ xs, H p = some (.lst xs) ∧ Iss K H xs ds ∧ ∀ q, F q ↔ q = p, fun ⟨xs, h, _, e⟩ q f => ((e q).mp f) ▸ ⟨_, h, .lst⟩, fun ⟨xs, h, i, e⟩ k s => ⟨xs, k p _ ((e p).mpr rfl) h, i.keep s, e⟩⟩
def boxT (b : Addr) : Thing := ⟨fun H F => ∃ l, Bx H b l ∧ ∀ q, F q ↔ q = b ∨ q = l, fun ⟨l, ⟨st, ns, h1, h2, _⟩, e⟩ q f => by
    rcases (e q).mp f with rfl | rfl
    · exact ⟨_, h1, .lst⟩
    · exact ⟨_, h2, .lst⟩, fun ⟨l, ⟨st, ns, h1, h2, h3⟩, e⟩ k _ => ⟨l, ⟨st, ns, k _ _ ((e _).mpr (.inl rfl)) h1, k _ _ ((e _).mpr (.inr rfl)) h2, h3⟩, e⟩⟩
section
variable {T : List (Addr × Str)} {H0 H H' : Hp} {F0 : Foot} {As : List Thing} {b : Addr} {K : PySem.W.Frag}
/-- the box drawn from: what stands beside stays -/
theorem St.drawn (h : St T H0 F0 (boxT b :: As) H) : ∃ l, Bx H b l ∧ ∀ H', Bx H' b l → Out b l H H' → St T H0 F0 (boxT b :: As) H' ∧ SmT H H' := by
  obtain ⟨F1, ⟨l, B, e⟩, _⟩ := h.get
  refine ⟨l, B, fun H' B' O => h.turn fun F1 ⟨l1, B1, e1⟩ m => ?_⟩
  obtain ⟨st, ns, h1, h2, _⟩ := B
  obtain ⟨st1, ns1, g1, g2, _⟩ := B1
  rw [h1] at g1
  cases g1
  exact ⟨F1, ⟨l, B', e1⟩, .of m fun q o n e0 => O q o (fun z => n ((e1 q).mpr (.inl z))) (fun z => n ((e1 q).mpr (.inr z))) e0, fun q f => .inl f⟩
theorem St.dat {p : Addr} {ds : List Dat} (h : St T H0 F0 (datT K p ds :: As) H) : ∃ xs, H p = some (.lst xs) ∧ Iss K H xs ds := by
  obtain ⟨F1, ⟨xs, a, i, _⟩, _⟩ := h.get
  exact ⟨xs, a, i⟩
/-- a list of values seen as one of data -/
theorem St.asDat {p : Addr} {xs : List V} {ds : List Dat} (h : St T H0 F0 (lstT p xs :: As) H) (i : Iss K H xs ds) : St T H0 F0 (datT K p ds :: As) H := h.see fun F1 ⟨a, e⟩ => ⟨xs, a, i, e⟩
theorem St.putDat {p : Addr} {ds es : List Dat} {ys : List V} (h : St T H0 F0 (datT K p ds :: As) H) (i : Iss K H ys es) : St T H0 F0 (datT K p es :: As) (L2.upd H p (.lst ys)) ∧ SmT H (L2.upd H p (.lst ys)) :=
  h.turn fun F1 ⟨xs, a, _, e⟩ m => by
    have hm : MutAt H p := ⟨_, a, .lst⟩
    have mv : Mv T F1 H (L2.upd H p (.lst ys)) := .upd ((e p).mpr rfl) hm
    exact ⟨F1, ⟨ys, upd_same, i.keep (mv.smT m), e⟩, mv, fun q f => .inl f⟩
end
end K3

set_option Elab.async false
set_option linter.all false
set_option maxRecDepth 100000
set_option maxHeartbeats 4000000
/-! KMt: methods of the program's classes, by class and name; rules for what they do -/
namespace K3
open PySem PySem.Spec PyProof.Rows L2
/-- a method as it stands in its class -/
structure DfM (K : PySem.W.Frag) (C : Addr) (m qual : Str) (st : Stmt) (ps : List Str) : Prop where
  ex : ∃ (f : Addr) (fd : FuncData), FunD K m qual (defArgs st) (defBody st) (defScope st) [] [] f fd ∧ Meth K C m f ∧ Binds K fd ps []
/-- .. and its promise -/
structure Mth (P : Program) (w : World) (K : PySem.W.Frag) (mg : Str → Option Value) (base : Heap) (CX : CXT) (k : Nat) (C : Addr) (m : Str) (ps : List Str) (sp : Sp) : Prop where
  ex : ∃ (f : Addr) (fd : FuncData), FnOk P w K mg base CX k f fd ps sp ∧ Meth K C m f ∧ Binds K fd ps []
section
variable {P : Program} {w : World} {K : PySem.W.Frag} {mg : Str → Option Value} {base : Heap}
theorem DfM.ok {C : Addr} {m qual : Str} {st : Stmt} {N ps : List Str} {k : Nat} {sp : Sp} (D : DfM K C m qual st ps) (S : FnScope N ps (defScope st)) (len : ∀ vs H Q E, sp vs H Q E → vs.length = ps.length)
    (hbody : ∀ (f : Addr) (cdv : Value) (A : Around) (outer : List Env) (s : Shared) (H : Hp) (vs : List V) (Q : VK) (E : XK), Room k (A.deeper (envOfC qual (defScope st) s.heap.objs.size f cdv)) → sp vs H Q E →
      ∃ t, PSs (cxOf CX0 P w K mg base N qual (defScope st) f cdv A outer s H E).nox (defBody st) t ∧ t { nx := fun _ H' => Q .non H', rt := Q } (start N vs) H) : Mth P w K mg base CX0 (k + 1) C m ps sp := by
  obtain ⟨f, fd, F, hm, hb⟩ := D.ex
  refine ⟨f, fd, F.ok S len fun cdv A outer s H vs Q E hr hsp => ?_, hm, hb⟩
  obtain ⟨t, h, q⟩ := hbody f cdv A outer s H vs Q E hr hsp
  exact ⟨t, h.nox, q⟩
theorem DfM.okX {C : Addr} {m qual : Str} {st : Stmt} {N ps : List Str} {k : Nat} {sp : Sp} (D : DfM K C m qual st ps) (S : FnScope N ps (defScope st)) (len : ∀ vs H Q E, sp vs H Q E → vs.length = ps.length)
    (hbody : ∀ (f : Addr) (cdv : Value) (A : Around) (outer : List Env) (s : Shared) (H : Hp) (vs : List V) (Q : VK) (E : XK), Room k (A.deeper (envOfC qual (defScope st) s.heap.objs.size f cdv)) → sp vs H Q E →
      ∃ t, PSs (cxOf (L2.CX P w) P w K mg base N qual (defScope st) f cdv A outer s H E) (defBody st) t ∧ t { nx := fun _ H' => Q .non H', rt := Q } (start N vs) H) : Mth P w K mg base (L2.CX P w) (k + 1) C m ps sp := by
  obtain ⟨f, fd, F, hm, hb⟩ := D.ex
  exact ⟨f, fd, F.ok S len fun cdv A outer s H vs Q E hr hsp => hbody f cdv A outer s H vs Q E hr hsp, hm, hb⟩
/-- a promise that raises, where nothing may be raised -/
theorem FnOk.calm {k : Nat} {f : Addr} {fd : FuncData} {ps : List Str} {sp : Sp} (G : FnOk P w K mg base (L2.CX P w) k f fd ps sp) : FnOk P w K mg base CX0 k f fd ps (fun vs H Q _ => sp vs H Q fun _ _ _ => False) :=
  ⟨fun vs H Q E h => G.len vs H Q _ h, fun A outer s H args us vs Q E hr e0 hbt r h => codeAny_mono (G.run A outer s H args us vs Q (fun _ _ _ => False) hr e0 hbt r h) fun r s' hq => by
    cases r with
    | error e =>
      obtain ⟨_, _, _, _, _, _, _, _, _, _, _, _, _, _, _, _, z⟩ := hq
    | ok fl =>
      cases fl with
      | ret u => exact hq
      | next => exact hq
      | brk => exact hq
      | cont => exact hq⟩
theorem Mth.calm {C : Addr} {m : Str} {k : Nat} {ps : List Str} {sp : Sp} (M : Mth P w K mg base (L2.CX P w) k C m ps sp) : Mth P w K mg base CX0 k C m ps (fun vs H Q _ => sp vs H Q fun _ _ _ => False) := by
  obtain ⟨f, fd, G, hm, hb⟩ := M.ex
  exact ⟨f, fd, FnOk.calm G, hm, hb⟩
theorem Mth.imp {CX : CXT} {C : Addr} {m : Str} {k : Nat} {ps : List Str} {sp sp' : Sp} (M : Mth P w K mg base CX k C m ps sp) (h : ∀ vs H Q E, sp' vs H Q E → sp vs H Q E) : Mth P w K mg base CX k C m ps sp' := by
  obtain ⟨f, fd, G, hm, hb⟩ := M.ex
  exact ⟨f, fd, G.imp h, hm, hb⟩
theorem Fn.imp {CX : CXT} {x : Str} {k : Nat} {ps : List Str} {sp sp' : Sp} (M : Fn P w K mg base CX k x ps sp) (h : ∀ vs H Q E, sp' vs H Q E → sp vs H Q E) : Fn P w K mg base CX k x ps sp' := by
  obtain ⟨f, fd, G, hm, hk, hb⟩ := M.ex
  exact ⟨f, fd, G.imp h, hm, hk, hb⟩
end
section
variable {X : Cx} {CX : CXT} {k : Nat} {C : Addr} {m : Str} {ps : List Str} {sp : Sp} {E : XK} {o e : Expr} {es : List Expr} {ta : TE} {t : TA} {apos pos : Pos} {pl : Sem Bool}
theorem pe_m (he : PE X o ta) (c : Cls X.K C) (M : Mth X.prog X.w X.K X.mg X.base CX k C m ps sp) (hr : Room k X.A) (hx : Passes CX X E) (ha : PA X (e :: es) t)
    (hst : starEach (e :: es) X.env = (false, eval e X.env) :: starEach es X.env := by rfl) (hpl : (backTo pos (starEach es X.env)).any (·.1) = false := by rfl)
    (ht : eval (.Call (.Attribute o m apos) (e :: es) [] pos) X.env = (do
      let ov ← eval o X.env
      standAt apos.atName
      let (f, first) ← holding [ov] (getMethod ov m pl)
      callWith pos f first (backTo pos (starEach (e :: es) X.env)) (backToKw pos (keywordEach [] X.env))) := by rfl) :
    PE X (.Call (.Attribute o m apos) (e :: es) [] pos) (tMeth C m sp [] E ta t) := by
  obtain ⟨f, fd, G, hm, hb⟩ := M.ex
  exact pe_meth he c hm G hr hb .nil hx ha hst hpl ht
theorem pe_m0 (he : PE X o ta) (c : Cls X.K C) (M : Mth X.prog X.w X.K X.mg X.base CX k C m ps sp) (hr : Room k X.A) (hx : Passes CX X E)
    (ht : eval (.Call (.Attribute o m apos) [] [] pos) X.env = (do
      let ov ← eval o X.env
      standAt apos.atName
      let (f, first) ← holding [ov] (getMethod ov m pl)
      callWith pos f first (backTo pos (starEach [] X.env)) (backToKw pos (keywordEach [] X.env))) := by rfl) :
    PE X (.Call (.Attribute o m apos) [] [] pos) (tMeth C m sp [] E ta tNil) := by
  obtain ⟨f, fd, G, hm, hb⟩ := M.ex
  exact pe_meth0 he c hm G hr hb .nil hx ht
theorem pe_c0 {x : Str} {p : Pos} (F : Fn X.prog X.w X.K X.mg X.base CX k x ps sp) (hr : Room k X.A) (hx : Passes CX X E) (hg : Gl X x := by rfl) (hdb : (x == ("__debug__" : Str)) = false := by decide) : PE X (.Call (.Name x p) [] [] pos) (tCall sp [] E tNil) := by
  obtain ⟨f, fd, G, hm, hk, hb⟩ := F.ex
  exact pe_call0 G hr hg hm hk hb .nil hx hdb
/-- what passes wherever one stands -/
theorem passes_at (h : ∀ σ, PassesAt CX X σ E) : Passes CX X E := fun pins σ H s e s' I q => h σ pins H s e s' I q
theorem pe_gstr {x : Str} {z : Str} {p : Pos} (h : ∃ t, X.mg x = some (.str z t)) (hg : Gl X x := by rfl) (hd : (x == ("__debug__" : Str)) = false := by decide) : PE X (.Name x p) (tC (.str z)) := by
  obtain ⟨t, h⟩ := h
  exact pe_glob hg h ⟨t, rfl⟩ hd
theorem pg_tupK {K : PySem.W.Frag} (eK : X.K = K) {es : List Expr} {k : Nat} {t : TGs} {n : Nat} (hc : X.calm = true) (h : PGs X es t)
    (hn : (assignEach es X.env).length = n := by rfl) (hst : (assignEach es X.env).findIdx? (·.1) = none := by rfl) : PG X (.Tuple es k pos) (gTup K n t) := by
  subst eK
  exact pg_tup hc h hn hst
/-- e.f, the class told -/
theorem pe_fldK {K : PySem.W.Frag} (eK : X.K = K) {f : Str} (he : PE X o ta) (hb : attributeBase o f X.env (eval o X.env) = eval o X.env) : PE X (.Attribute o f pos) (tFld K ta f) := by
  subst eK
  exact pe_fld he hb
end
/-- a class of refusals, as it stands at a name of the module -/
structure ExcN (K : PySem.W.Frag) (mg : Str → Option Value) (x : Str) (C : Addr) : Prop where
  g : mg x = some (.ref C)
  x : PySem.W.excIn K C [.type "ValueError", .type "Exception", .type "BaseException", .type "object"] "ValueError.__new__" = true
  k : PySem.W.keepIn K (.ref C) = true
  b : PySem.W.subIn K (.ref C) (.type "BaseException") = some true
  t : PySem.W.typeIn K (.ref C) = some (.type "type")
theorem pe_cX {X : Cx} {CX : CXT} {k : Nat} {ps : List Str} {sp : Sp} {E : L2.St → XK} {x : Str} {p pos : Pos} {e : Expr} {es : List Expr} {t : TA} (F : Fn X.prog X.w X.K X.mg X.base CX k x ps sp) (hr : Room k X.A) (hx : ∀ σ, PassesAt CX X σ (E σ)) (ha : PA X (e :: es) t) (hg : Gl X x := by rfl) (hdb : (x == ("__debug__" : Str)) = false := by decide)
    (he : starEach (e :: es) X.env = (false, eval e X.env) :: starEach es X.env := by rfl) (hpl : (backTo pos (starEach es X.env)).any (·.1) = false := by rfl) : PE X (.Call (.Name x p) (e :: es) [] pos) (tCallS sp E t) := by
  obtain ⟨f, fd, G, hm, hk, hb⟩ := F.ex
  exact pe_callS G hr hg hm hk hb hx ha hdb he hpl
/-! ### list.extend with a tuple -/
theorem ext_tup (l : Addr) (items : Array Value) (n : Nat) (b : Addr) (o : Obj) (items2 : Array Value) (n2 : Nat) (hc : o.cls = .type "tuple") (hd : o.data = .seq items2 n2) (hs0 : ¬(!items.isEmpty && Builtin.List.listTooLong (items.size + items2.size)) = true) (hs1 : items.size ≤ sizeLine) (hs2 : items.size + items2.size ≤ sizeLine + 1) :
    Meets (Builtin.«list.extend» ⟨[.ref l, .ref b], []⟩) (fun _ R s => s.heap.get? l = some { cls := .type "list", dict := none, data := .seq items n, slots := #[] } ∧ s.heap.get? b = some o ∧ R (.ok (.ret Value.none)) { s with heap := s.heap.update l (Obj.mapSeq fun x => x ++ items2) }) :=
  .of_wp fun prog w A R s h => by
    obtain ⟨hl, hb, h⟩ := h
    show wpAny _ A.in1 (Builtin.List.listExtendWith (.ref l) (.ref b) .none) _ _ s
    unfold Builtin.List.listExtendWith
    refine wpAny_bind (wpAny_typeOf ⟨o, hb, hc⟩ ?_)
    have h1 : (Builtin.List.listSameRef (.ref l) (.ref b) || Value.type "tuple" == Value.type "list" || Value.type "tuple" == Value.type "tuple") = true := by simp
    simp only [h1, if_true]
    refine wpAny_bind ?_
    unfold Builtin.List.listItems
    refine wpAny_bind (wpAny_seqItems hb hd (wpAny_pure ?_))
    refine wpAny_bind ?_
    refine wpAny_bind (wpAny_seqItems hl rfl (wpAny_pure ?_))
    rw [if_neg hs0]
    show wpAny _ A.in1 (updateSeq l (· ++ items2) >>= fun _ => ret .none) _ _ s
    refine wpAny_bind (wpAny_updateSeq hl rfl ?_ hs1 (by rw [Array.size_append]; exact hs2))
    exact wpAny_pure ⟨_, rfl, h⟩
def rExtT (K : PySem.W.Frag) : V → List V → Hp → VK → Prop := fun x vs H Q => ∃ l b xs zs, x = .ref l ∧ vs = [.ref b] ∧ H l = some (.lst xs) ∧ SqT K H b zs ∧ xs.length + zs.length ≤ sizeLine ∧ Q .non (L2.upd H l (.lst (xs ++ zs)))
theorem mt_extendT {X : Cx} {K : PySem.W.Frag} (eK : X.K = K) : MtM X "list.extend" (rExtT K) := by
  subst eK
  intro pins s σ H x vs v us Q I rx rv h
  obtain ⟨l, b, xs, zs, rfl, rfl, hH, hB, hz, q⟩ := h
  cases rx
  obtain ⟨u, rfl, ru⟩ := rv.one
  cases ru
  obtain ⟨z, its, n, r, hl, e⟩ := I.lstM hH
  obtain ⟨its2, r2, ⟨o2, e2, c2, n2, d2⟩, hl2⟩ := I.tuple hB
  have l2 := r2.length
  have hsz : its.toArray.size + its2.toArray.size ≤ sizeLine := by rw [List.size_toArray, List.size_toArray]; omega
  have hlong : ¬ (!its.toArray.isEmpty && Builtin.List.listTooLong (its.toArray.size + its2.toArray.size)) = true := by
    rw [notLongL hsz, Bool.and_false]
    exact Bool.false_ne_true
  refine call_meets F.slot_list_extend ⟨_, e, rfl⟩ F.entry_list_extend (F.args_list_extend_2 _ _)
    (ext_tup l its.toArray n b o2 its2.toArray n2 c2 d2 hlong (by rw [List.size_toArray]; omega) (by omega)) ⟨e, e2, ?_⟩
  refine ⟨.non, _, I.lset (its' := its ++ its2) hH e (by simp) (r.append r2) ?_, rfl, q⟩
  rw [List.length_append]
  omega
end K3

set_option Elab.async false
set_option linter.all false
set_option maxRecDepth 100000
set_option maxHeartbeats 4000000
/-! KDk: the disk -/
namespace K3
open PySem PySem.Spec PyProof.Rows L2
structure TxtD (mg : Str → Option Value) : Prop where
  c_BLOCKS : ∃ t, mg "BLOCKS" = some (.int 600 t)
  c_MOST_WEIGHT : ∃ t, mg "MOST_WEIGHT" = some (.int 40 t)
  b_zip : mg "zip" = none
/-- what the class must have -/
structure DiskC (K : PySem.W.Frag) (mg : Str → Option Value) (C : Addr) : Prop where
  cl : Cls K C
  nS : NoAttr K C "settled"
  nN : NoAttr K C "newest"
  nW : NoAttr K C "waiting"
  nR : NoAttr K C "running"
  nD : NoAttr K C "deeds"
  nP : NoAttr K C "picks"
  g : mg "Disk" = some (.ref C)
def dflds (s n w r d p : V) : List (Str × V) := [("settled", s), ("newest", n), ("waiting", w), ("running", r), ("deeds", d), ("picks", p)]
section
variable {s n w r d p y : V}
theorem dl_s : (dflds s n w r d p).lookup ("settled" : Str) = some s := by kernel_rfl
theorem dl_n : (dflds s n w r d p).lookup ("newest" : Str) = some n := by kernel_rfl
theorem dl_w : (dflds s n w r d p).lookup ("waiting" : Str) = some w := by kernel_rfl
theorem dl_r : (dflds s n w r d p).lookup ("running" : Str) = some r := by kernel_rfl
theorem dl_d : (dflds s n w r d p).lookup ("deeds" : Str) = some d := by kernel_rfl
theorem dl_p : (dflds s n w r d p).lookup ("picks" : Str) = some p := by kernel_rfl
theorem dp_s : putF "settled" y (dflds s n w r d p) = dflds y n w r d p := by kernel_rfl
theorem dp_n : putF "newest" y (dflds s n w r d p) = dflds s y w r d p := by kernel_rfl
theorem dp_w : putF "waiting" y (dflds s n w r d p) = dflds s n y r d p := by kernel_rfl
theorem dp_r : putF "running" y (dflds s n w r d p) = dflds s n w y d p := by kernel_rfl
theorem dp_d : putF "deeds" y (dflds s n w r d p) = dflds s n w r y p := by kernel_rfl
theorem dp_p : putF "picks" y (dflds s n w r d p) = dflds s n w r d y := by kernel_rfl
theorem d_len : (dflds s n w r d p).length < 1000 := by
  show 6 < 1000
  decide
theorem dn_write : (dflds s n w r d p).lookup ("write" : Str) = none := by kernel_rfl
theorem dn_settle : (dflds s n w r d p).lookup ("settle" : Str) = none := by kernel_rfl
theorem dn_read : (dflds s n w r d p).lookup ("read" : Str) = none := by kernel_rfl
theorem dn_arm : (dflds s n w r d p).lookup ("arm" : Str) = none := by kernel_rfl
theorem dn_stop : (dflds s n w r d p).lookup ("stop" : Str) = none := by kernel_rfl
theorem dn_again : (dflds s n w r d p).lookup ("again" : Str) = none := by kernel_rfl
theorem dn_blocks : (dflds s n w r d p).lookup ("blocks" : Str) = none := by kernel_rfl
theorem dn_check : (dflds s n w r d p).lookup ("check_running" : Str) = none := by kernel_rfl
theorem dn_spend : (dflds s n w r d p).lookup ("spend_deed" : Str) = none := by kernel_rfl
end
/-! ### what a disk holds -/
structure Dsk where
  settled : List Dat
  newest : List Dat
  waiting : List (Nat × Dat)
  running : Bool
  deeds : Option Int
  picks : List Bool
def dskNew : Dsk := ⟨List.replicate 600 .non, List.replicate 600 .non, [], true, none, []⟩
/-- of the writes those stay whose pick is true -/
def keep1 (ss : List Dat) (q : (Nat × Dat) × Bool) : List Dat := if q.2 = true then ss.set q.1.1 q.1.2 else ss
def Dsk.stop (D : Dsk) (ps : List Bool) : Dsk := if D.running = true then { D with settled := (D.waiting.zip ps).foldl keep1 D.settled, running := false } else D
/-- a deed: the disk behind it, whether it may be done -/
def Dsk.spend (D : Dsk) : Dsk × Bool :=
  if D.running = true then
    match D.deeds with
    | none => (D, true)
    | some i => if i ≤ 0 then (D.stop D.picks, false) else ({ D with deeds := some (i - 1) }, true)
  else (D, false)
def Dsk.put (D : Dsk) (b : Nat) (d : Dat) : Dsk := { D with waiting := D.waiting ++ [(b, d)], newest := D.newest.set b d }
def Dsk.settle (D : Dsk) : Dsk := { D with settled := D.newest, waiting := [] }
def Dsk.arm (D : Dsk) (i : Int) (ps : List Bool) : Dsk := if D.running = true then { D with deeds := some i, picks := ps } else D
def Dsk.again (D : Dsk) : Dsk := { D with newest := D.settled, waiting := [], running := true, deeds := none, picks := [] }
def deedV : Option Int → V
  | none => .non
  | some i => .int i
def waitD (q : Nat × Dat) : Dat := .tup [.int q.1, q.2]
/-- the numbers of its writes are those of blocks -/
structure DskOk (D : Dsk) : Prop where
  ls : D.settled.length = 600
  ln : D.newest.length = 600
  lw : ∀ q ∈ D.waiting, q.1 < 600
  few : D.waiting.length ≤ 5000
  lp : D.picks.length ≤ 5000
/-- where it lies -/
structure DskA (K : PySem.W.Frag) (C : Addr) (H : Hp) (a s n w p : Addr) (D : Dsk) : Prop where
  ins : ∃ dx, H a = some (.ins C dx (dflds (.ref s) (.ref n) (.ref w) (.bl D.running) (deedV D.deeds) (.ref p)))
  hs : ∃ xs, H s = some (.lst xs) ∧ Iss K H xs D.settled
  hn : ∃ xs, H n = some (.lst xs) ∧ Iss K H xs D.newest
  hw : ∃ xs, H w = some (.lst xs) ∧ Iss K H xs (D.waiting.map waitD)
  hp : H p = some (.lst (D.picks.map V.bl))
  ap : s ≠ n ∧ s ≠ w ∧ s ≠ p ∧ n ≠ w ∧ n ≠ p ∧ w ≠ p
theorem lst_ins {H : Hp} {a b C dx : Addr} {xs : List V} {fs : List (Str × V)} (h : H a = some (.lst xs)) (g : H b = some (.ins C dx fs)) : a ≠ b := fun e => by
  rw [e, g] at h
  cases h
theorem SmT.put {H : Hp} {p : Addr} {o o' : HO} (h : H p = some o) (m : Mutb o) : SmT H (L2.upd H p o') := fun b u e k => by
  by_cases c : b = p
  · rw [c, h] at e
    obtain rfl := Option.some.inj e
    obtain ⟨n1, n2, _⟩ := m.not
    rcases k with ⟨xs, k⟩ | ⟨ob, xs, k⟩
    · exact absurd k (n1 xs)
    · exact absurd k (n2 _ _)
  · exact (upd_ne c).trans e
section
variable {K : PySem.W.Frag} {C : Addr} {H H' : Hp} {a s n w p : Addr} {D : Dsk}
theorem DskA.same (h : DskA K C H a s n w p D) (e : Same H H') : DskA K C H' a s n w p D := by
  obtain ⟨⟨dx, h1⟩, ⟨xs, h2, i2⟩, ⟨ys, h3, i3⟩, ⟨zs, h4, i4⟩, h5, r⟩ := h
  exact ⟨⟨dx, e _ _ h1⟩, ⟨xs, e _ _ h2, i2.same e⟩, ⟨ys, e _ _ h3, i3.same e⟩, ⟨zs, e _ _ h4, i4.same e⟩, e _ _ h5, r⟩
end
def diskF (a s n w p : Addr) : Foot := fun q => q = a ∨ q = s ∨ q = n ∨ q = w ∨ q = p
def diskT (K : PySem.W.Frag) (C a : Addr) (D : Dsk) : Thing := ⟨fun H F => ∃ s n w p, DskA K C H a s n w p D ∧ ∀ q, F q ↔ diskF a s n w p q,
  fun ⟨s, n, w, p, ⟨⟨dx, h1⟩, ⟨xs, h2, i2⟩, ⟨ys, h3, i3⟩, ⟨zs, h4, i4⟩, h5, _⟩, e⟩ q f => by
    rcases (e q).mp f with rfl | rfl | rfl | rfl | rfl
    · exact ⟨_, h1, .ins⟩
    · exact ⟨_, h2, .lst⟩
    · exact ⟨_, h3, .lst⟩
    · exact ⟨_, h4, .lst⟩
    · exact ⟨_, h5, .lst⟩,
  fun ⟨s, n, w, p, ⟨⟨dx, h1⟩, ⟨xs, h2, i2⟩, ⟨ys, h3, i3⟩, ⟨zs, h4, i4⟩, h5, r⟩, e⟩ k sm =>
    have k' : ∀ q o, diskF a s n w p q → _ → _ := fun q o f => k q o ((e q).mpr f)
    ⟨s, n, w, p, ⟨⟨dx, k' _ _ (.inl rfl) h1⟩, ⟨xs, k' _ _ (.inr (.inl rfl)) h2, i2.keep sm⟩, ⟨ys, k' _ _ (.inr (.inr (.inl rfl))) h3, i3.keep sm⟩, ⟨zs, k' _ _ (.inr (.inr (.inr (.inl rfl)))) h4, i4.keep sm⟩, k' _ _ (.inr (.inr (.inr (.inr rfl)))) h5, r⟩, e⟩⟩
section
variable {P : Program} {w : World} {K : PySem.W.Frag} {mg : Str → Option Value} {base : Heap}
abbrev s_check_block : Stmt := top 19
abbrev N_check_block : List Str := ["block"]
abbrev P_check_block : List Str := ["block"]
theorem sc_check_block : FnScope N_check_block P_check_block (defScope s_check_block) := ⟨rfl, rfl, rfl, by decide +kernel, rfl, by decide +kernel, by decide +kernel⟩
def spCkB (CB : Addr) : Sp := fun vs H Q E => ∃ b : Int, vs = [.int b] ∧ b.natAbs < 2 ^ 64 ∧ ((0 ≤ b ∧ b < 600) → Q .non H) ∧ (¬ (0 ≤ b ∧ b < 600) → E (.ref CB) none H)
theorem ok_check_block {CB : Addr} (T : Txt mg) (TD : TxtD mg) (XB : ExcN K mg "BadBlock" CB) (D : Df K mg "check_block" s_check_block P_check_block) : Fn P w K mg base (L2.CX P w) 1 "check_block" P_check_block (spCkB CB) := by
  refine D.okX sc_check_block (fun vs H Q E h => ?_) (fun f cdv A outer s H vs Q E hr h => ?_)
  · obtain ⟨b, rfl, _⟩ := h
    rfl
  · obtain ⟨b, rfl, h64, k1, k2⟩ := h
    have nd := sc_check_block.nd
    refine ⟨_, (pss_one (ps_if (PW.pt (pw_or (pt_cmpR op_lt (pv 0) pe_int (nomark _)) (pw_or1 (pt_cmpR op_ge (pv 0) (pe_gint TD.c_BLOCKS) (nomark _)))))
  (pss_one (ps_raise rfl (takes_of rfl rfl rfl rfl) (SkE.pmk_own1 PySem.F.excBase_ValueError XB.x XB.g XB.k (raises_own XB.b XB.t) rfl (pe_joined (.cons pe_str (.cons (pe_fmt (pv 0)) .nil))))))
  pss_nil)), ?_⟩
    refine ⟨_, rfl, _, _, rfl, rfl, _, rfl, ?_⟩
    refine ite2 (fun c => ?_) (fun c1 => ?_)
    · have c' : b < 0 := of_decide_eq_true c
      exact ⟨_, rfl, str_fits (str_add (show Str.empty.length ≤ 0 from Nat.le_refl 0) (show (Str.ofString "there is no block ").length ≤ 18 by decide)) (by decide), _, rfl, .inr ⟨_, rfl, int_log h64, _, rfl, str_fits (str_add (str_add (show Str.empty.length ≤ 0 from Nat.le_refl 0) (show (Str.ofString "there is no block ").length ≤ 18 by decide)) (int_len h64)) (by decide), k2 (by omega)⟩⟩
    · refine ⟨_, rfl, _, _, rfl, rfl, _, rfl, ?_⟩
      have c1' : ¬ b < 0 := fun z => c1 (decide_eq_true z)
      refine ite2 (fun c => ?_) (fun c2 => ?_)
      · have c' : (600 : Int) ≤ b := of_decide_eq_true c
        exact ⟨_, rfl, str_fits (str_add (show Str.empty.length ≤ 0 from Nat.le_refl 0) (show (Str.ofString "there is no block ").length ≤ 18 by decide)) (by decide), _, rfl, .inr ⟨_, rfl, int_log h64, _, rfl, str_fits (str_add (str_add (show Str.empty.length ≤ 0 from Nat.le_refl 0) (show (Str.ofString "there is no block ").length ≤ 18 by decide)) (int_len h64)) (by decide), k2 (by omega)⟩⟩
      · have c2' : ¬ (600 : Int) ≤ b := fun z => c2 (decide_eq_true z)
        exact k1 ⟨by omega, by omega⟩
abbrev s_weight : Stmt := top 20
abbrev N_weight : List Str := ["what", "parts", "many", "part"]
abbrev P_weight : List Str := ["what"]
theorem sc_weight : FnScope N_weight P_weight (defScope s_weight) := ⟨rfl, rfl, rfl, by decide +kernel, rfl, by decide +kernel, by decide +kernel⟩
def spWt (K : PySem.W.Frag) : Sp := fun vs H Q _ => ∃ (v : V) (d : Dat), vs = [v] ∧ Is K H v d ∧ d.size ≤ 10000 ∧ ∀ H', Same H H' → Q (.int (d.weight : Nat)) H'
theorem weights_one (d : Dat) : weights [d] = d.weight := by
  show d.weight + 0 = _
  omega
theorem sizes_one (d : Dat) : sizes [d] = d.size := by
  show d.size + 0 = _
  omega
theorem ok_weight (T : Txt mg) (D : Df K mg "weight" s_weight P_weight) : Fn P w K mg base CX0 1 "weight" P_weight (spWt K) := by
  refine D.ok sc_weight (fun vs H Q E h => ?_) (fun f cdv A outer s H vs Q E hr h => ?_)
  · obtain ⟨v, d, rfl, _⟩ := h
    rfl
  · obtain ⟨v, d, rfl, hd, hz, k⟩ := h
    have nd := sc_weight.nd
    refine ⟨_, (pss_cons (ps_set (i := 1) nd rfl (by first | exact Or.inl rfl | exact Or.inr rfl) (pe_lst (pa_cons (pv 0) pa_nil)))
  (pss_cons (ps_set (i := 2) nd rfl (by first | exact Or.inl rfl | exact Or.inr rfl) pe_int)
  (pss_cons (ps_while PassesOwn.never (pt_truth (pv 1) (by intro _; rfl))
  (pss_cons (ps_set (i := 3) nd rfl (by first | exact Or.inl rfl | exact Or.inr rfl) (pe_bm0 PySem.F.plainAttrs_list PySem.F.slot_list_pop PySem.F.type_list_pop mt_pop (pv 1)))
  (pss_one (ps_if (pt_val (pe_callB call_isi (by rfl) T.b_isinstance (by decide +kernel) (pa_cons (pv 3) (pa_cons (pe_bltn (v := .ty "tuple") (by rfl) T.b_tuple (by decide +kernel) rfl) pa_nil))))
  (pss_one (ps_expr (pe_bm PySem.F.plainAttrs_list PySem.F.slot_list_extend PySem.F.type_list_extend (mt_extendT (K := K) rfl) (pv 1) (pa_cons (pv 3) pa_nil))))
  (pss_one (ps_aug (i := 2) nd rfl (by first | exact Or.inl rfl | exact Or.inr rfl) pe_int ip_add))))))
  (pss_one (ps_ret (pv 2)))))), ?_⟩
    refine ⟨_, rfl, (by show 1 ≤ sizeLine; decide), fun p np => ?_⟩
    refine ⟨fun m σ H' => ∃ (xs : List V) (ds : List Dat) (c : Nat) (v3 : Option V), σ = [some v, some (.ref p), some (.int (c : Int)), v3] ∧ Same H H' ∧ H' p = some (.lst xs) ∧ Iss K H' xs ds ∧ c + weights ds = d.weight ∧ sizes ds = m ∧ m ≤ d.size, ⟨d.size, [v], [d], 0, none, rfl, Same.upd np, upd_same, (Iss.cons (hd.same (Same.upd np)) .nil), by rw [weights_one]; omega, sizes_one d, Nat.le_refl _⟩, ?_⟩
    rintro m σ H' ⟨xs, ds, c, v3, rfl, s1, hp, hi, hc, rfl, hm⟩
    have hlen := hi.1
    have hsl := sizes_len ds
    refine ⟨_, rfl, _, .inl ⟨xs, SqL.of hp, rfl⟩, ?_⟩
    refine ite2 (fun ne => ?_) (fun em => ?_)
    · have xne : xs ≠ [] := fun z => by
        rw [z] at ne
        cases ne
      obtain ⟨ys, y, rfl⟩ : ∃ ys y, xs = ys ++ [y] := ⟨xs.dropLast, xs.getLast xne, (List.dropLast_concat_getLast xne).symm⟩
      obtain ⟨es, e, rfl⟩ : ∃ es e, ds = es ++ [e] := by
        have dne : ds ≠ [] := fun z => by
          rw [z, List.length_append] at hlen
          cases hlen
        exact ⟨ds.dropLast, ds.getLast dne, (List.dropLast_concat_getLast dne).symm⟩
      rw [List.length_append, List.length_append] at hlen
      have hlen : ys.length + 1 = es.length + 1 := hlen
      have hy : Is K H' y e := hi.2 ys.length y e (by simp) (by rw [show ys.length = es.length by omega]; simp)
      have hys : Iss K H' ys es := by
        have := hi.take ys.length
        rw [List.take_left, show ys.length = es.length by omega, List.take_left] at this
        exact this
      rw [weights_app, weights_one] at hc
      rw [sizes_app, sizes_one] at hm
      refine ⟨_, fun _ _ z => z, ?_⟩
      refine ⟨_, rfl, .inl ⟨rfl, _, SqL.of hp⟩, p, _, y, rfl, rfl, hp, by simp, ?_⟩
      rw [List.dropLast_concat]
      have s2 := Same.put (o := .lst ys) s1 np
      have smu : SmT H' (L2.upd H' p (.lst ys)) := SmT.put hp .lst
      have hy2 := hy.keep smu
      have hys2 := hys.keep smu
      have esz := size_pos e
      generalize hH2 : L2.upd H' p (.lst ys) = H2 at s2 hy2 hys2 ⊢
      have hp2 : H2 p = some (.lst ys) := by
        rw [← hH2]
        exact upd_same
      cases e with
      | tup fs =>
        obtain ⟨q, zs, rfl, hq, iz⟩ := is_tup hy2
        have hfs : 1 + sizes fs ≤ d.size := by
          have : (Dat.tup fs).size = 1 + sizes fs := rfl
          omega
        refine ⟨_, rfl, _, .ty "tuple", .type "tuple", .type "tuple", true, rfl, .ty _, tyX_seqT hq, kit_ty (by decide +kernel), _, rfl, ?_⟩
        refine ite2 (fun _ => ?_) (fun z => absurd rfl z)
        have hsf := sizes_len fs
        refine ⟨_, rfl, .inl ⟨rfl, _, SqL.of hp2⟩, _, rfl, p, q, ys, zs, rfl, rfl, hp2, hq, ?_, ?_⟩
        · rw [iz.1, sizeLine_eq]
          have := sizes_len es
          omega
        · have smu2 : SmT H2 (L2.upd H2 p (.lst (ys ++ zs))) := SmT.put hp2 .lst
          refine ⟨_, ?_, ys ++ zs, es ++ fs, c, _, rfl, Same.put s2 np, upd_same, (hys2.app iz).keep smu2, ?_, rfl, ?_⟩
          · rw [sizes_app, sizes_app, sizes_one]
            show sizes es + sizes fs < sizes es + (1 + sizes fs)
            omega
          · rw [weights_app]
            have : (Dat.tup fs).weight = weights fs := rfl
            omega
          · rw [sizes_app]
            have : (Dat.tup fs).size = 1 + sizes fs := rfl
            omega
      | non =>
        cases hy2
        refine ⟨_, rfl, _, .ty "tuple", .type "NoneType", .type "tuple", false, rfl, .ty _, .base .non, kit_ty (by decide +kernel), _, rfl, ?_⟩
        refine ite2 (fun z => nomatch z) (fun _ => ?_)
        refine ⟨_, rfl, _, _, rfl, rfl, ?_⟩
        refine ⟨_, ?_, ys, es, c + 1, _, rfl, s2, hp2, hys2, ?_, rfl, ?_⟩
        · rw [sizes_app, sizes_one]
          omega
        · have : (Dat.non).weight = 1 := rfl
          omega
        · omega
      | bl t =>
        cases hy2
        refine ⟨_, rfl, _, .ty "tuple", .type "bool", .type "tuple", false, rfl, .ty _, .base (.bl _), kit_ty (by decide +kernel), _, rfl, ?_⟩
        refine ite2 (fun z => nomatch z) (fun _ => ?_)
        refine ⟨_, rfl, _, _, rfl, rfl, ?_⟩
        refine ⟨_, ?_, ys, es, c + 1, _, rfl, s2, hp2, hys2, ?_, rfl, ?_⟩
        · rw [sizes_app, sizes_one]
          omega
        · have : (Dat.bl t).weight = 1 := rfl
          omega
        · omega
      | int t =>
        cases hy2
        refine ⟨_, rfl, _, .ty "tuple", .type "int", .type "tuple", false, rfl, .ty _, .base (.int _), kit_ty (by decide +kernel), _, rfl, ?_⟩
        refine ite2 (fun z => nomatch z) (fun _ => ?_)
        refine ⟨_, rfl, _, _, rfl, rfl, ?_⟩
        refine ⟨_, ?_, ys, es, c + 1, _, rfl, s2, hp2, hys2, ?_, rfl, ?_⟩
        · rw [sizes_app, sizes_one]
          omega
        · have : (Dat.int t).weight = 1 := rfl
          omega
        · omega
      | str t =>
        cases hy2
        refine ⟨_, rfl, _, .ty "tuple", .type "str", .type "tuple", false, rfl, .ty _, .base (.str _), kit_ty (by decide +kernel), _, rfl, ?_⟩
        refine ite2 (fun z => nomatch z) (fun _ => ?_)
        refine ⟨_, rfl, _, _, rfl, rfl, ?_⟩
        refine ⟨_, ?_, ys, es, c + 1, _, rfl, s2, hp2, hys2, ?_, rfl, ?_⟩
        · rw [sizes_app, sizes_one]
          omega
        · have : (Dat.str t).weight = 1 := rfl
          omega
        · omega
    · have xe : xs = [] := by
        cases xs with
        | nil => rfl
        | cons x xs => exact absurd rfl em
      subst xe
      have de : ds = [] := List.length_eq_zero_iff.mp hlen.symm
      subst de
      have hc : c + 0 = d.weight := hc
      refine ⟨_, rfl, ?_⟩
      have e : c = d.weight := by omega
      rw [e]
      exact k _ s1
end
end K3

set_option Elab.async false
set_option linter.all false
set_option maxRecDepth 100000
set_option maxHeartbeats 4000000
/-! KDm: the disk's methods -/
namespace K3
open PySem PySem.Spec PyProof.Rows L2
theorem take_moreZ {α : Type} : ∀ {l : List α} {i : Nat} {x : α}, l[i]? = some x → l.take (i + 1) = l.take i ++ [x]
  | y :: l, 0, x, h => by
    cases h
    rfl
  | y :: l, i + 1, x, h => by
    have h : l[i]? = some x := h
    rw [List.take_succ_cons, List.take_succ_cons, take_moreZ h]
    rfl
theorem foot_eq {F F' : Foot} (h : ∀ q, F q ↔ F' q) : F = F' := funext fun q => propext (h q)
theorem Holds.one {A : Thing} {H : Hp} {F : Foot} (h : Holds [A] H F) : A.R H F := by
  obtain ⟨F1, F2, a, n, d, e⟩ := h
  have : F = F1 := foot_eq fun q => (e q).trans ⟨fun f => f.elim id fun z => absurd z (n q), .inl⟩
  rw [this]
  exact a
theorem Holds.of {A : Thing} {H : Hp} {F : Foot} (h : A.R H F) : Holds [A] H F := ⟨F, fun _ => False, h, fun q f => f, fun q _ f => f, fun q => ⟨.inl, fun z => z.elim id False.elim⟩⟩
section
variable {T : List (Addr × Str)} {H0 H H' : Hp} {F0 : Foot} {As : List Thing} {K : PySem.W.Frag} {C a : Addr} {D : Dsk}
/-- the disk moved -/
theorem St.disk (h : St T H0 F0 (diskT K C a D :: As) H) : ∃ s n w p, DskA K C H a s n w p D ∧ ∀ {H' D' s' n' w' p'}, DskA K C H' a s' n' w' p' D' → (∀ q, diskF a s' n' w' p' q → diskF a s n w p q ∨ H q = none) → (∀ q o, ¬ diskF a s n w p q → H q = some o → H' q = some o) → St T H0 F0 (diskT K C a D' :: As) H' ∧ SmT H H' := by
  obtain ⟨F1, ⟨s, n, w, p, hA, e⟩, m⟩ := h.get
  refine ⟨s, n, w, p, hA, fun {H' D' s' n' w' p'} hA' sub out => h.turn fun F2 ⟨s2, n2, w2, p2, hA2, e2⟩ m2 => ?_⟩
  obtain ⟨⟨dx, i1⟩, _⟩ := hA
  obtain ⟨⟨dx2, i2⟩, _⟩ := hA2
  rw [i1] at i2
  have i2 := Option.some.inj i2
  unfold dflds at i2
  injection i2 with _ _ i3
  simp only [List.cons.injEq, Prod.mk.injEq, V.ref.injEq, true_and, and_true] at i3
  obtain ⟨rfl, rfl, rfl, _, _, rfl⟩ := i3
  refine ⟨diskF a s' n' w' p', ⟨s', n', w', p', hA', fun q => Iff.rfl⟩, .of m2 fun q o nq e0 => out q o (fun f => nq ((e2 q).mpr f)) e0, fun q f => ?_⟩
  rcases sub q f with z | z
  · exact .inl ((e2 q).mpr z)
  · exact .inr (MutAt.no z)
end
section
variable {P : Program} {w : World} {K : PySem.W.Frag} {mg : Str → Option Value} {base : Heap}
abbrev s_Disk_check_running : Stmt := inClass (top 18) 8
abbrev N_Disk_check_running : List Str := ["self"]
abbrev P_Disk_check_running : List Str := ["self"]
theorem sc_Disk_check_running : FnScope N_Disk_check_running P_Disk_check_running (defScope s_Disk_check_running) := ⟨rfl, rfl, rfl, by decide +kernel, rfl, by decide +kernel, by decide +kernel⟩
def spCkR (K : PySem.W.Frag) (C CS : Addr) : Sp := fun vs H Q E => ∃ (a s n w p : Addr) (D : Dsk), vs = [.ref a] ∧ DskA K C H a s n w p D ∧ (D.running = true → Q .non H) ∧ (D.running = false → E (.ref CS) none H)
theorem ok_check_running {C CS : Addr} (C_Disk : DiskC K mg C) (XS : ExcN K mg "Stopped" CS) (D : DfM K C "check_running" "Disk.check_running" s_Disk_check_running P_Disk_check_running) : Mth P w K mg base (L2.CX P w) 1 C "check_running" P_Disk_check_running (spCkR K C CS) := by
  refine D.okX sc_Disk_check_running (fun vs H Q E h => ?_) (fun f cdv A outer s H vs Q E hr h => ?_)
  · obtain ⟨a, s, n, w, p, D, rfl, _⟩ := h
    rfl
  · obtain ⟨a, s, n, w, p, D, rfl, hA, k1, k2⟩ := h
    have nd := sc_Disk_check_running.nd
    refine ⟨_, (pss_one (ps_if (pt_not (pt_val (pe_fldK (K := K) rfl (pv 0) (by rfl))))
  (pss_one (ps_raise rfl (takes_of rfl rfl rfl rfl) (pmk_own PySem.F.excBase_ValueError XS.x XS.g XS.k (raises_own XS.b XS.t) rfl)))
  pss_nil)), ?_⟩
    obtain ⟨dx, hi⟩ := hA.ins
    refine ⟨_, rfl, a, C, dx, _, _, rfl, hi, C_Disk.cl, C_Disk.nR, dl_r, _, rfl, ?_⟩
    refine ite2 (fun c => ?_) (fun c => ?_)
    · exact k2 (by simpa using c)
    · exact k1 (by simpa using c)
abbrev s_Disk_stop : Stmt := inClass (top 18) 5
abbrev N_Disk_stop : List Str := ["self", "picks", "pick", "block", "what"]
abbrev P_Disk_stop : List Str := ["self", "picks"]
theorem sc_Disk_stop : FnScope N_Disk_stop P_Disk_stop (defScope s_Disk_stop) := ⟨rfl, rfl, rfl, by decide +kernel, rfl, by decide +kernel, by decide +kernel⟩
/-- stop: the picks' list is another one than that of the settled blocks -/
def spStopA (K : PySem.W.Frag) (C : Addr) : Sp := fun vs H Q _ => ∃ (a s n w p pp : Addr) (D : Dsk) (ps : List Bool), vs = [.ref a, .ref pp] ∧ DskA K C H a s n w p D ∧ DskOk D ∧ H pp = some (.lst (ps.map V.bl)) ∧ pp ≠ s ∧
  ∀ H', DskA K C H' a s n w p (D.stop ps) → (∀ q o, q ≠ a → q ≠ s → H q = some o → H' q = some o) → Q .non H'
theorem ok_stopA {C : Addr} (T_zip : mg "zip" = none) (C_Disk : DiskC K mg C) (D : DfM K C "stop" "Disk.stop" s_Disk_stop P_Disk_stop) : Mth P w K mg base CX0 1 C "stop" P_Disk_stop (spStopA K C) := by
  refine D.ok sc_Disk_stop (fun vs H Q E h => ?_) (fun f cdv A outer s H vs Q E hr h => ?_)
  · obtain ⟨a, s, n, w, p, pp, D, ps, rfl, _⟩ := h
    rfl
  · obtain ⟨a, s, n, w, p, pp, D, ps, rfl, hA, ok, hpp, nps, k⟩ := h
    have nd := sc_Disk_stop.nd
    refine ⟨_, (pss_cons (ps_if (pt_not (pt_val (pe_fldK (K := K) rfl (pv 0) (by rfl))))
  (pss_one ps_retN)
  pss_nil)
  (pss_cons (ps_for PassesOwn.never rfl (pi_zip (by rfl) T_zip (pa_cons (pe_fldK (K := K) rfl (pv 0) (by rfl)) (pa_cons (pv 1) pa_nil))) (pg_tupK (K := K) (n := 2) rfl (by rfl) (pgs_cons (pg_tupK (K := K) (n := 2) rfl (by rfl) (pgs_cons (pg_name (i := 3) nd rfl (by first | exact Or.inl rfl | exact Or.inr rfl)) (pgs_cons (pg_name (i := 4) nd rfl (by first | exact Or.inl rfl | exact Or.inr rfl)) pgs_nil))) (pgs_cons (pg_name (i := 2) nd rfl (by first | exact Or.inl rfl | exact Or.inr rfl)) pgs_nil)))
  (pss_one (ps_if (pt_val (pv 2))
  (pss_one (ps_asg (pv 4) (pg_sub (pe_fldK (K := K) rfl (pv 0) (by rfl)) (pv 3) set_list)))
  pss_nil)))
  (pss_one (ps_fld (pv 0) pe_bl rfl)))), ?_⟩
    obtain ⟨⟨dx, hi⟩, ⟨xs, hs, is⟩, ⟨ys, hn, in_⟩, ⟨zs, hw, iw⟩, hp, ap⟩ := id hA
    obtain ⟨sn, sw, sp, nw, np, wp⟩ := id ap
    refine ⟨_, rfl, a, C, dx, _, _, rfl, hi, C_Disk.cl, C_Disk.nR, dl_r, _, rfl, ?_⟩
    refine ite2 (fun c => ?_) (fun c => ?_)
    · have c' : D.running = false := by simpa using c
      refine k _ ?_ fun q o _ _ e => e
      unfold Dsk.stop
      rw [if_neg (by rw [c']; decide)]
      exact hA
    have c' : D.running = true := by simpa using c
    have sa : s ≠ a := lst_ins hs hi
    have wa : w ≠ a := lst_ins hw hi
    refine ⟨_, rfl, a, C, dx, _, _, rfl, hi, C_Disk.cl, C_Disk.nW, dl_w, _, rfl, w, pp, zs, ps.map V.bl, rfl, SqL.of hw, SqL.of hpp, ?_⟩
    have hlz := iw.1
    rw [List.length_map] at hlz
    refine for_it (walk_zip rfl) (fun i σ H' => (∃ v2 v3 v4, σ = [some (.ref a), some (.ref pp), v2, v3, v4]) ∧ ∃ us, H' s = some (.lst us) ∧ Iss K H' us (((D.waiting.zip ps).take i).foldl keep1 D.settled) ∧ (∀ q o, q ≠ s → H q = some o → H' q = some o)) ⟨⟨none, none, none, rfl⟩, xs, hs, is, fun q o _ e => e⟩ (fun i σ H' _ ⟨_, us, _, _, o⟩ => ⟨SqL.of (o _ _ sw.symm hw), SqL.of (o _ _ nps hpp)⟩) ?_ ?_
    · rintro i x σ H1 H2 hi2 ⟨⟨v2, v3, v4, rfl⟩, us, hus, ius, out⟩ ⟨T0, x0, y0, rfl, nT, rfl, e1, e2⟩
      rw [List.length_map] at hi2
      obtain ⟨b, hb, rfl⟩ := map_at e2
      obtain ⟨d, hd, hx0⟩ := iw.get e1
      rw [List.getElem?_map] at hd
      obtain ⟨⟨blk, what⟩, hq, rfl⟩ := Option.map_eq_some_iff.mp hd
      have sm : SmT H H1 := by
        intro c u e kk
        refine out c u (fun z => ?_) e
        rw [z, hs] at e
        have e := Option.some.inj e
        rcases kk with ⟨zz, kk⟩ | ⟨ob, zz, kk⟩ <;> rw [kk] at e <;> cases e
      have sT : Same H1 (L2.upd H1 T0 (.tup [x0, .bl b])) := Same.upd nT
      obtain ⟨q, zz, rfl, hqt, izz⟩ := is_tup ((hx0.keep sm).same sT)
      obtain ⟨vb, vw, rfl⟩ : ∃ vb vw, zz = [vb, vw] := by
        have := izz.1
        match zz, this with
        | [vb, vw], _ => exact ⟨vb, vw, rfl⟩
      obtain ⟨hvb, izz2⟩ := izz.uncons
      obtain ⟨hvw, _⟩ := izz2.uncons
      cases hvb
      have hzip : (D.waiting.zip ps)[i]? = some ((blk, what), b) := by
        rw [List.getElem?_zip_eq_some]
        exact ⟨hq, hb⟩
      refine ⟨T0, _, rfl, SqT.of upd_same, rfl, _, _, rfl, q, _, rfl, hqt, rfl, _, _, rfl, _, _, rfl, rfl, _, _, rfl, rfl, ?_⟩
      have hi1 : (L2.upd H1 T0 (.tup [.ref q, .bl b])) a = some (.ins C dx (dflds (.ref s) (.ref n) (.ref w) (.bl D.running) (deedV D.deeds) (.ref p))) := sT _ _ (out _ _ sa.symm hi)
      have hus1 := sT _ _ hus
      have ius1 := ius.same sT
      have out1 : ∀ q2 o, q2 ≠ s → H q2 = some o → (L2.upd H1 T0 (.tup [.ref q, .bl b])) q2 = some o := fun q2 o n2 e => sT _ _ (out _ _ n2 e)
      generalize hH2 : L2.upd H1 T0 (.tup [V.ref q, V.bl b]) = H2 at hi1 hus1 ius1 hvw out1 ⊢
      refine ⟨_, rfl, _, rfl, ?_⟩
      refine ite2 (fun cb => ?_) (fun cb => ?_)
      · have cb' : b = true := cb
        refine ⟨_, rfl, _, rfl, a, C, dx, _, _, rfl, hi1, C_Disk.cl, C_Disk.nS, dl_s, _, rfl, s, us, (blk : Int), blk, rfl, rfl, hus1, ?_, ?_⟩
        · refine Evl.ixN_nat ?_
          have hbl := ok.lw (blk, what) (List.mem_of_getElem? hq)
          have l1 := ius1.1
          have l2 : ∀ (l : List ((Nat × Dat) × Bool)) (ss : List Dat), (l.foldl keep1 ss).length = ss.length := fun l => by
            induction l with
            | nil => exact fun ss => rfl
            | cons q l ih =>
              intro ss
              rw [List.foldl_cons, ih]
              unfold keep1
              split
              · exact List.length_set
              · rfl
          rw [l2, ok.ls] at l1
          have hbl : blk < 600 := hbl
          omega
        · have smu : SmT H2 (L2.upd H2 s (.lst (us.set blk vw))) := SmT.put hus1 .lst
          refine ⟨⟨_, _, _, rfl⟩, us.set blk vw, upd_same, ?_, fun q2 o n2 e => (upd_ne n2).trans (out1 _ _ n2 e)⟩
          rw [take_moreZ hzip, List.foldl_append]
          show Iss K _ _ (keep1 _ ((blk, what), b))
          unfold keep1
          rw [if_pos cb']
          exact (ius1.set blk hvw).keep smu
      · refine ⟨⟨_, _, _, rfl⟩, us, hus1, ?_, out1⟩
        rw [take_moreZ hzip, List.foldl_append]
        show Iss K _ _ (keep1 _ ((blk, what), b))
        unfold keep1
        rw [if_neg cb]
        exact ius1
    · rintro σ H1 ⟨⟨v2, v3, v4, rfl⟩, us, hus, ius, out⟩
      rw [List.length_map, hlz, ← List.length_zip, List.take_length] at ius
      have hi1 := out _ _ sa.symm hi
      refine ⟨_, rfl, a, C, dx, _, rfl, hi1, C_Disk.cl, C_Disk.nR, d_len, ?_⟩
      rw [dp_r]
      have smu : SmT H1 (L2.upd H1 a (.ins C dx (dflds (.ref s) (.ref n) (.ref w) (.bl false) (deedV D.deeds) (.ref p)))) := SmT.put hi1 .ins
      have sm : SmT H H1 := by
        intro c u e kk
        refine out c u (fun z => ?_) e
        rw [z, hs] at e
        have e := Option.some.inj e
        rcases kk with ⟨zz, kk⟩ | ⟨ob, zz, kk⟩ <;> rw [kk] at e <;> cases e
      have na : n ≠ a := lst_ins hn hi
      have pa : p ≠ a := lst_ins hp hi
      refine k _ ?_ fun q o n1 n2 e => (upd_ne n1).trans (out _ _ n2 e)
      unfold Dsk.stop
      rw [if_pos c']
      exact ⟨⟨dx, upd_same⟩, ⟨us, (upd_ne sa).trans hus, ius.keep smu⟩, ⟨ys, (upd_ne na).trans (out _ _ sn.symm hn), (in_.keep sm).keep smu⟩, ⟨zs, (upd_ne wa).trans (out _ _ sw.symm hw), (iw.keep sm).keep smu⟩, (upd_ne pa).trans (out _ _ sp.symm hp), ap⟩
theorem DskA.apart {C a s n w p : Addr} {H : Hp} {D : Dsk} (h : DskA K C H a s n w p D) : s ≠ a ∧ n ≠ a ∧ w ≠ a ∧ p ≠ a := by
  obtain ⟨⟨dx, hi⟩, ⟨xs, hs, _⟩, ⟨ys, hn, _⟩, ⟨zs, hw, _⟩, hp, _⟩ := h
  exact ⟨lst_ins hs hi, lst_ins hn hi, lst_ins hw hi, lst_ins hp hi⟩
theorem keeps_len {ss : List Dat} : ∀ {l : List ((Nat × Dat) × Bool)}, (l.foldl keep1 ss).length = ss.length := fun {l} => by
  induction l generalizing ss with
  | nil => rfl
  | cons q l ih =>
    rw [List.foldl_cons, ih]
    unfold keep1
    split
    · exact List.length_set
    · rfl
theorem DskOk.stop {D : Dsk} (ok : DskOk D) (ps : List Bool) : DskOk (D.stop ps) := by
  unfold Dsk.stop
  split
  · exact ⟨keeps_len.trans ok.ls, ok.ln, ok.lw, ok.few, ok.lp⟩
  · exact ok
theorem DskOk.spend {D : Dsk} (ok : DskOk D) : DskOk D.spend.1 := by
  unfold Dsk.spend
  split
  · split
    · exact ok
    · split
      · exact ok.stop _
      · exact ⟨ok.ls, ok.ln, ok.lw, ok.few, ok.lp⟩
  · exact ok
theorem spend_settled_waiting {D : Dsk} (h : D.spend.2 = true) : D.spend.1.settled = D.settled ∧ D.spend.1.newest = D.newest ∧ D.spend.1.waiting = D.waiting ∧ D.spend.1.running = true := by
  unfold Dsk.spend at h ⊢
  split
  · rename_i r
    split
    · exact ⟨rfl, rfl, rfl, r⟩
    · split
      · rename_i e c
        rw [if_pos r] at h
        simp only [e] at h
        rw [if_pos c] at h
        cases h
      · exact ⟨rfl, rfl, rfl, r⟩
  · rename_i r
    rw [if_neg r] at h
    cases h
abbrev s_Disk_spend_deed : Stmt := inClass (top 18) 9
abbrev N_Disk_spend_deed : List Str := ["self"]
abbrev P_Disk_spend_deed : List Str := ["self"]
theorem sc_Disk_spend_deed : FnScope N_Disk_spend_deed P_Disk_spend_deed (defScope s_Disk_spend_deed) := ⟨rfl, rfl, rfl, by decide +kernel, rfl, by decide +kernel, by decide +kernel⟩
/-- a deed: told at the places where the disk lies -/
def spSpend (K : PySem.W.Frag) (T : List (Addr × Str)) (C CS : Addr) : Sp := fun vs H Q E => ∃ (a : Addr) (D : Dsk) (F : Foot), vs = [.ref a] ∧ Holds [diskT K C a D] H F ∧ LamX.Tabs T H ∧ DskOk D ∧ (∀ i, D.deeds = some i → i.natAbs < 2 ^ 64) ∧
  (D.spend.2 = true → ∀ H', St T H F [diskT K C a D.spend.1] H' → Q .non H') ∧ (D.spend.2 = false → ∀ H', St T H F [diskT K C a D.spend.1] H' → E (.ref CS) none H')
theorem ok_spend {T : List (Addr × Str)} {C CS : Addr} (C_Disk : DiskC K mg C) (XS : ExcN K mg "Stopped" CS) (D : DfM K C "spend_deed" "Disk.spend_deed" s_Disk_spend_deed P_Disk_spend_deed)
    (M_Disk_check_running : Mth P w K mg base (L2.CX P w) 1 C "check_running" P_Disk_check_running (spCkR K C CS)) (M_Disk_stop : Mth P w K mg base CX0 1 C "stop" P_Disk_stop (spStopA K C)) : Mth P w K mg base (L2.CX P w) 2 C "spend_deed" P_Disk_spend_deed (spSpend K T C CS) := by
  refine D.okX sc_Disk_spend_deed (fun vs H Q E h => ?_) (fun f cdv A outer s H vs Q E hr h => ?_)
  · obtain ⟨a, D, F, rfl, _⟩ := h
    rfl
  · obtain ⟨a, D, F, rfl, hF, hT, ok, h64, k1, k2⟩ := h
    have nd := sc_Disk_spend_deed.nd
    refine ⟨_, (pss_cons (ps_expr (pe_m0 (E := E) (pv 0) C_Disk.cl M_Disk_check_running (hr.mono (by decide)) (passes_at (fun σ => passAt (takes_of rfl rfl rfl rfl) σ))))
  (pss_cons (ps_if (pt_cmpR op_isN (pe_fldK (K := K) rfl (pv 0) (by rfl)) pe_non (nomark _))
  (pss_one ps_retN)
  pss_nil)
  (pss_cons (ps_if (pt_cmpR op_le (pe_fldK (K := K) rfl (pv 0) (by rfl)) pe_int (nomark _))
  (pss_cons (ps_expr (pe_m (pv 0) C_Disk.cl M_Disk_stop (hr.mono (by decide)) pass0 (pa_cons (pe_fldK (K := K) rfl (pv 0) (by rfl)) pa_nil)))
  (pss_one (ps_raise rfl (takes_of rfl rfl rfl rfl) (pmk_own PySem.F.excBase_ValueError XS.x XS.g XS.k (raises_own XS.b XS.t) rfl))))
  pss_nil)
  (pss_one (ps_fldaug (pv 0) pe_int in_sub))))), ?_⟩
    have st0 := St.start hF hT
    obtain ⟨s, n, w, p, hA, mv⟩ := st0.disk
    obtain ⟨⟨dx, hi⟩, ⟨xs, hs, is⟩, ⟨ys, hn, in_⟩, ⟨zs, hw, iw⟩, hp, ap⟩ := id hA
    obtain ⟨sa, na, wa, pa⟩ := hA.apart
    refine ⟨_, rfl, a, dx, _, rfl, hi, dn_check, a, s, n, w, p, D, rfl, hA, fun run => ?_, fun nr => k2 ?_ _ ?_⟩
    rotate_left
    · unfold Dsk.spend
      rw [if_neg (by rw [nr]; decide)]
    · have e : D.spend.1 = D := by
        unfold Dsk.spend
        rw [if_neg (by rw [nr]; decide)]
      rw [e]
      exact st0
    · refine ⟨_, rfl, a, C, dx, _, _, rfl, hi, C_Disk.cl, C_Disk.nD, dl_d, rfl, _, rfl, ?_⟩
      cases hd : D.deeds with
      | none =>
        refine ite2 (fun _ => ?_) (fun z => absurd rfl z)
        have e : D.spend = (D, true) := by
          unfold Dsk.spend
          rw [if_pos run, hd]
        exact k1 (by rw [e]) _ (by rw [e]; exact st0)
      | some i =>
        have h64' := h64 i hd
        refine ite2 (fun z => nomatch (of_decide_eq_true z)) (fun _ => ?_)
        rw [hd] at hi
        refine ⟨_, rfl, a, C, dx, _, _, rfl, hi, C_Disk.cl, C_Disk.nD, dl_d, _, _, rfl, rfl, _, rfl, ?_⟩
        refine ite2 (fun c => ?_) (fun c => ?_)
        · have c' : i ≤ 0 := of_decide_eq_true c
          have e : D.spend = (D.stop D.picks, false) := by
            unfold Dsk.spend
            rw [if_pos run, hd]
            show (if i ≤ 0 then _ else _) = _
            rw [if_pos c']
          refine ⟨_, rfl, a, dx, _, rfl, hi, dn_stop, _, rfl, a, C, dx, _, _, rfl, hi, C_Disk.cl, C_Disk.nP, dl_p, a, s, n, w, p, p, D, D.picks, rfl, hA, ok, hp, ap.2.2.1.symm, fun H' hA' out => ?_⟩
          refine k2 (by rw [e]) _ ?_
          rw [e]
          exact (mv hA' (fun q f => .inl f) fun q o f e0 => out q o (fun z => f (.inl z)) (fun z => f (.inr (.inl z))) e0).1
        · have c' : ¬ i ≤ 0 := fun z => c (decide_eq_true z)
          have e : D.spend = ({ D with deeds := some (i - 1) }, true) := by
            unfold Dsk.spend
            rw [if_pos run, hd]
            show (if i ≤ 0 then _ else _) = _
            rw [if_neg c']
          refine ⟨_, rfl, a, C, dx, _, _, rfl, hi, C_Disk.cl, C_Disk.nD, dl_d, _, _, rfl, rfl, dx, _, hi, d_len, ?_⟩
          rw [dp_d]
          have sm : SmT H (L2.upd H a (.ins C dx (dflds (.ref s) (.ref n) (.ref w) (.bl D.running) (.int (i - 1)) (.ref p)))) := SmT.put hi .ins
          refine k1 (by rw [e]) _ ?_
          rw [e]
          refine (mv (D' := { D with deeds := some (i - 1) }) ⟨⟨dx, upd_same⟩, ⟨xs, (upd_ne sa).trans hs, is.keep sm⟩, ⟨ys, (upd_ne na).trans hn, in_.keep sm⟩, ⟨zs, (upd_ne wa).trans hw, iw.keep sm⟩, (upd_ne pa).trans hp, ap⟩ (fun q f => .inl f) fun q o f e0 => (upd_ne fun z => f (.inl z)).trans e0).1
abbrev s_Disk_write : Stmt := inClass (top 18) 1
abbrev N_Disk_write : List Str := ["self", "block", "what"]
abbrev P_Disk_write : List Str := ["self", "block", "what"]
theorem sc_Disk_write : FnScope N_Disk_write P_Disk_write (defScope s_Disk_write) := ⟨rfl, rfl, rfl, by decide +kernel, rfl, by decide +kernel, by decide +kernel⟩
/-- write -/
def spWrite (K : PySem.W.Frag) (T : List (Addr × Str)) (C CS CB : Addr) : Sp := fun vs H Q E => ∃ (a : Addr) (b : Int) (v : V) (d : Dat) (D : Dsk) (F : Foot), vs = [.ref a, .int b, v] ∧ Holds [diskT K C a D] H F ∧ LamX.Tabs T H ∧ DskOk D ∧ (∀ i, D.deeds = some i → i.natAbs < 2 ^ 64) ∧ b.natAbs < 2 ^ 64 ∧ Is K H v d ∧ d.size ≤ 10000 ∧
  (¬ (0 ≤ b ∧ b < 600 ∧ d.weight ≤ 40) → ∀ H', Same H H' → E (.ref CB) none H') ∧
  (0 ≤ b ∧ b < 600 ∧ d.weight ≤ 40 → (D.spend.2 = true → ∀ H', St T H F [diskT K C a (D.spend.1.put b.toNat d)] H' → Q .non H') ∧ (D.spend.2 = false → ∀ H', St T H F [diskT K C a D.spend.1] H' → E (.ref CS) none H'))
theorem ok_write {T : List (Addr × Str)} {C CS CB : Addr} (T0 : Txt mg) (TD : TxtD mg) (C_Disk : DiskC K mg C) (XB : ExcN K mg "BadBlock" CB) (D : DfM K C "write" "Disk.write" s_Disk_write P_Disk_write)
    (G_check_block : Fn P w K mg base (L2.CX P w) 1 "check_block" P_check_block (spCkB CB)) (G_weight : Fn P w K mg base CX0 1 "weight" P_weight (spWt K)) (M_Disk_spend_deed : Mth P w K mg base (L2.CX P w) 2 C "spend_deed" P_Disk_spend_deed (spSpend K T C CS)) : Mth P w K mg base (L2.CX P w) 3 C "write" P_Disk_write (spWrite K T C CS CB) := by
  refine D.okX sc_Disk_write (fun vs H Q E h => ?_) (fun f cdv A outer s H vs Q E hr h => ?_)
  · obtain ⟨a, b, v, d, D, F, rfl, _⟩ := h
    rfl
  · obtain ⟨a, b, v, d, D, F, rfl, hF, hT, ok, h64, hb, hv, hz, k0, k1⟩ := h
    have nd := sc_Disk_write.nd
    refine ⟨_, (pss_cons (ps_expr (pe_cX (E := fun _ => E) G_check_block (hr.mono (by decide)) (fun σ => passAt (takes_of rfl rfl rfl rfl) σ) (pa_cons (pv 1) pa_nil)))
  (pss_cons (ps_if (pt_cmpR op_gt (pe_c G_weight (hr.mono (by decide)) pass0 (pa_cons (pv 2) pa_nil)) (pe_gint TD.c_MOST_WEIGHT) (nomark _))
  (pss_one (ps_raise rfl (takes_of rfl rfl rfl rfl) (SkE.pmk_own1 PySem.F.excBase_ValueError XB.x XB.g XB.k (raises_own XB.b XB.t) rfl (pe_joined (.cons pe_str (.cons (pe_fmt (pe_gint TD.c_MOST_WEIGHT)) .nil))))))
  pss_nil)
  (pss_cons (ps_expr (pe_m0 (E := E) (pv 0) C_Disk.cl M_Disk_spend_deed (hr.mono (by decide)) (passes_at (fun σ => passAt (takes_of rfl rfl rfl rfl) σ))))
  (pss_cons (ps_expr (pe_bm PySem.F.plainAttrs_list PySem.F.slot_list_append PySem.F.type_list_append mt_append (pe_fldK (K := K) rfl (pv 0) (by rfl)) (pa_cons (pe_tup (pa_cons (pv 1) (pa_cons (pv 2) pa_nil))) pa_nil)))
  (pss_one (ps_asg (pv 2) (pg_sub (pe_fldK (K := K) rfl (pv 0) (by rfl)) (pv 1) set_list))))))), ?_⟩
    refine ⟨_, rfl, b, rfl, hb, fun inr => ?_, fun z => k0 (fun y => z ⟨y.1, y.2.1⟩) _ (Same.refl H)⟩
    refine ⟨_, rfl, v, d, rfl, hv, hz, fun H1 s1 => ⟨_, _, rfl, rfl, _, rfl, ?_⟩⟩
    refine ite2 (fun c => ?_) (fun c => ?_)
    · have c' : (40 : Int) < (d.weight : Nat) := of_decide_eq_true c
      exact ⟨_, rfl, str_fits (str_add (show Str.empty.length ≤ 0 from Nat.le_refl 0) (show (Str.ofString "no block takes more than ").length ≤ 25 by decide)) (by decide), .inr ⟨_, rfl, int_log (by decide), _, rfl, str_fits (str_add (str_add (show Str.empty.length ≤ 0 from Nat.le_refl 0) (show (Str.ofString "no block takes more than ").length ≤ 25 by decide)) (int_len (by decide))) (by decide), k0 (fun z => by omega) _ s1⟩⟩
    have c' : ¬ (40 : Int) < (d.weight : Nat) := fun z => c (decide_eq_true z)
    obtain ⟨kt, kf⟩ := k1 ⟨inr.1, inr.2, by omega⟩
    have st0 := (St.start hF hT).same s1
    obtain ⟨F1, hF1, back⟩ := st0.step (Cs := [diskT K C a D]) (Ds := []) (.refl _)
    obtain ⟨dx0, hi0⟩ : ∃ dx fs, H1 a = some (.ins C dx fs) ∧ fs.lookup ("spend_deed" : Str) = none := by
      obtain ⟨s, n, w, p, hA, _⟩ := st0.disk
      obtain ⟨dx, hi⟩ := hA.ins
      exact ⟨dx, _, hi, dn_spend⟩
    obtain ⟨fs0, hi0, hl0⟩ := hi0
    refine ⟨_, rfl, a, dx0, fs0, rfl, hi0, hl0, a, D, F1, rfl, hF1, st0.tabs, ok, h64, fun ht H2 st2 => ?_, fun hf H2 st2 => kf hf _ (back st2).1⟩
    have hv1 : Is K H2 v d := (hv.same s1).keep (back st2).2
    have st2 := (back st2).1
    obtain ⟨e1, e2, e3, e4⟩ := spend_settled_waiting ht
    have ok1 := ok.spend
    obtain ⟨s, n, w, p, hA, mv⟩ := st2.disk
    obtain ⟨⟨dx, hi⟩, ⟨xs, hs, is⟩, ⟨ys, hn, in_⟩, ⟨zs, hw, iw⟩, hp, ap⟩ := id hA
    obtain ⟨sa, na, wa, pa⟩ := hA.apart
    obtain ⟨sn, sw, sp, nw, np, wp⟩ := id ap
    obtain ⟨bn, rfl⟩ := Int.eq_ofNat_of_zero_le inr.1
    refine ⟨_, rfl, a, C, dx, _, _, rfl, hi, C_Disk.cl, C_Disk.nW, dl_w, .inl ⟨rfl, _, SqL.of hw⟩, ?_⟩
    refine ⟨_, rfl, _, rfl, (by show 2 ≤ sizeLine; decide), fun t nt => ?_⟩
    have st := Same.upd (o := .tup [.int (bn : Int), v]) nt
    have ht2 : Is K (L2.upd H2 t (.tup [.int (bn : Int), v])) (.ref t) (waitD (bn, d)) := (Iss.cons (.int _) (Iss.cons hv1 .nil)).made nt
    have hi3 := st _ _ hi
    have hs3 := st _ _ hs
    have hn3 := st _ _ hn
    have hw3 := st _ _ hw
    have hp3 := st _ _ hp
    have is3 := is.same st
    have in3 := in_.same st
    have iw3 := iw.same st
    have hv3 := hv1.same st
    generalize hH3 : L2.upd H2 t (HO.tup [V.int (bn : Int), v]) = H3 at st ht2 hi3 hs3 hn3 hw3 hp3 is3 in3 iw3 hv3 ⊢
    have lz := iw.1
    rw [List.length_map] at lz
    have := ok1.few
    refine ⟨w, zs, .ref t, rfl, rfl, hw3, by rw [sizeLine_eq]; omega, ?_⟩
    have sm1 : SmT H3 (L2.upd H3 w (.lst (zs ++ [.ref t]))) := SmT.put hw3 .lst
    have hi4 : (L2.upd H3 w (.lst (zs ++ [.ref t]))) a = _ := (upd_ne wa.symm).trans hi3
    have hn4 : (L2.upd H3 w (.lst (zs ++ [.ref t]))) n = _ := (upd_ne nw).trans hn3
    refine ⟨_, rfl, _, rfl, a, C, dx, _, _, rfl, hi4, C_Disk.cl, C_Disk.nN, dl_n, _, rfl, n, ys, (bn : Int), bn, rfl, rfl, hn4, ?_, ?_⟩
    · refine Evl.ixN_nat ?_
      have := in_.1
      rw [ok1.ln] at this
      omega
    have sm2 : SmT (L2.upd H3 w (.lst (zs ++ [.ref t]))) (L2.upd (L2.upd H3 w (.lst (zs ++ [.ref t]))) n (.lst (ys.set bn v))) := SmT.put hn4 .lst
    have sm := sm1.trans sm2
    refine kt ht _ (mv (D' := D.spend.1.put bn d) ⟨⟨dx, (upd_ne na.symm).trans hi4⟩, ⟨xs, (upd_ne sn).trans ((upd_ne sw).trans hs3), is3.keep sm⟩, ⟨_, upd_same, (in3.set bn hv3).keep sm⟩, ⟨_, (upd_ne nw.symm).trans upd_same, ?_⟩, (upd_ne np.symm).trans ((upd_ne wp.symm).trans hp3), ap⟩ (fun q f => .inl f) fun q o f e0 => ?_).1
    · show Iss K _ _ ((D.spend.1.waiting ++ [(bn, d)]).map waitD)
      rw [List.map_append]
      exact (iw3.app (.cons ht2 .nil)).keep sm
    · refine (upd_ne fun z => f (.inr (.inr (.inl z)))).trans ((upd_ne fun z => f (.inr (.inr (.inr (.inl z))))).trans (st _ _ e0))
end
end K3

set_option Elab.async false
set_option linter.all false
set_option maxRecDepth 100000
set_option maxHeartbeats 4000000
/-! KDn: the disk's other methods; a new disk -/
namespace K3
open PySem PySem.Spec PyProof.Rows L2
section
variable {P : Program} {w : World} {K : PySem.W.Frag} {mg : Str → Option Value} {base : Heap}
theorem iss_nons {H : Hp} (n : Nat) : Iss K H (List.replicate n V.non) (List.replicate n Dat.non) := Iss.rep n .non
theorem rep_none (n : Nat) : (List.replicate n [V.non]).flatten = List.replicate n V.non := by
  induction n with
  | zero => rfl
  | succ n ih =>
    rw [List.replicate_succ, List.flatten_cons, ih, List.replicate_succ]
    rfl
abbrev s_Disk_settle : Stmt := inClass (top 18) 2
abbrev N_Disk_settle : List Str := ["self"]
abbrev P_Disk_settle : List Str := ["self"]
theorem sc_Disk_settle : FnScope N_Disk_settle P_Disk_settle (defScope s_Disk_settle) := ⟨rfl, rfl, rfl, by decide +kernel, rfl, by decide +kernel, by decide +kernel⟩
def spSettle (K : PySem.W.Frag) (T : List (Addr × Str)) (C CS : Addr) : Sp := fun vs H Q E => ∃ (a : Addr) (D : Dsk) (F : Foot), vs = [.ref a] ∧ Holds [diskT K C a D] H F ∧ LamX.Tabs T H ∧ DskOk D ∧ (∀ i, D.deeds = some i → i.natAbs < 2 ^ 64) ∧
  (D.spend.2 = true → ∀ H', St T H F [diskT K C a D.spend.1.settle] H' → Q .non H') ∧ (D.spend.2 = false → ∀ H', St T H F [diskT K C a D.spend.1] H' → E (.ref CS) none H')
theorem ok_settle {T : List (Addr × Str)} {C CS : Addr} (T0 : Txt mg) (C_Disk : DiskC K mg C) (D : DfM K C "settle" "Disk.settle" s_Disk_settle P_Disk_settle)
    (M_Disk_spend_deed : Mth P w K mg base (L2.CX P w) 2 C "spend_deed" P_Disk_spend_deed (spSpend K T C CS)) : Mth P w K mg base (L2.CX P w) 3 C "settle" P_Disk_settle (spSettle K T C CS) := by
  have T := T0
  refine D.okX sc_Disk_settle (fun vs H Q E h => ?_) (fun f cdv A outer s H vs Q E hr h => ?_)
  · obtain ⟨a, D, F, rfl, _⟩ := h
    rfl
  · obtain ⟨a, D, F, rfl, hF, hT, ok, h64, kt, kf⟩ := h
    have nd := sc_Disk_settle.nd
    refine ⟨_, (pss_cons (ps_expr (pe_m0 (E := E) (pv 0) C_Disk.cl M_Disk_spend_deed (hr.mono (by decide)) (passes_at (fun σ => passAt (takes_of rfl rfl rfl rfl) σ))))
  (pss_cons (ps_fld (pv 0) (pe_callTy call_list_of (by rfl) T.b_list (by decide +kernel) (pa_cons (pe_fldK (K := K) rfl (pv 0) (by rfl)) pa_nil)) rfl)
  (pss_one (ps_fld (pv 0) (pe_lst pa_nil) rfl)))), ?_⟩
    have st0 := St.start hF hT
    obtain ⟨dx0, fs0, hi0, hl0⟩ : ∃ dx fs, H a = some (.ins C dx fs) ∧ fs.lookup ("spend_deed" : Str) = none := by
      obtain ⟨s, n, w, p, hA, _⟩ := st0.disk
      obtain ⟨dx, hi⟩ := hA.ins
      exact ⟨dx, _, hi, dn_spend⟩
    refine ⟨_, rfl, a, dx0, fs0, rfl, hi0, hl0, a, D, F, rfl, hF, hT, ok, h64, fun ht H2 st2 => ?_, kf⟩
    obtain ⟨s, n, w, p, hA, mv⟩ := st2.disk
    obtain ⟨⟨dx, hi⟩, ⟨xs, hs, is⟩, ⟨ys, hn, in_⟩, ⟨zs, hw, iw⟩, hp, ap⟩ := id hA
    obtain ⟨sa, na, wa, pa⟩ := hA.apart
    obtain ⟨sn, sw, sp, nw, np, wp⟩ := id ap
    refine ⟨_, rfl, a, C, dx, _, _, rfl, hi, C_Disk.cl, C_Disk.nN, dl_n, n, _, rfl, .inl (SqL.of hn), fun s' ns' => ?_⟩
    have s1 := Same.upd (o := .lst ys) ns'
    refine ⟨_, rfl, a, C, dx, _, rfl, s1 _ _ hi, C_Disk.cl, C_Disk.nS, d_len, ?_⟩
    rw [dp_s]
    have sm2 : SmT (L2.upd H2 s' (.lst ys)) (L2.upd (L2.upd H2 s' (.lst ys)) a (.ins C dx (dflds (.ref s') (.ref n) (.ref w) (.bl D.spend.1.running) (deedV D.spend.1.deeds) (.ref p)))) := SmT.put (s1 _ _ hi) .ins
    have ns'a : s' ≠ a := fun z => by
      rw [z, hi] at ns'
      cases ns'
    refine ⟨Nat.zero_le _, fun w' nw' => ?_⟩
    have s3 := Same.upd (o := .lst []) nw'
    have nw1 : w' ≠ a := fun z => by
      rw [z, upd_same] at nw'
      cases nw'
    refine ⟨_, rfl, a, C, dx, _, rfl, s3 _ _ upd_same, C_Disk.cl, C_Disk.nW, d_len, ?_⟩
    rw [dp_w]
    have sm4 : SmT (L2.upd (L2.upd (L2.upd H2 s' (.lst ys)) a (.ins C dx (dflds (.ref s') (.ref n) (.ref w) (.bl D.spend.1.running) (deedV D.spend.1.deeds) (.ref p)))) w' (.lst [])) (L2.upd (L2.upd (L2.upd (L2.upd H2 s' (.lst ys)) a (.ins C dx (dflds (.ref s') (.ref n) (.ref w) (.bl D.spend.1.running) (deedV D.spend.1.deeds) (.ref p)))) w' (.lst [])) a (.ins C dx (dflds (.ref s') (.ref n) (.ref w') (.bl D.spend.1.running) (deedV D.spend.1.deeds) (.ref p)))) := SmT.put (s3 _ _ upd_same) .ins
    have sm : SmT H2 _ := (((SmT.of s1).trans sm2).trans (.of s3)).trans sm4
    have old : ∀ {q o}, q ≠ a → H2 q = some o → (L2.upd (L2.upd (L2.upd (L2.upd H2 s' (.lst ys)) a (.ins C dx (dflds (.ref s') (.ref n) (.ref w) (.bl D.spend.1.running) (deedV D.spend.1.deeds) (.ref p)))) w' (.lst [])) a (.ins C dx (dflds (.ref s') (.ref n) (.ref w') (.bl D.spend.1.running) (deedV D.spend.1.deeds) (.ref p)))) q = some o := fun {q o} qa e => (upd_ne qa).trans (s3 _ _ ((upd_ne qa).trans (s1 _ _ e)))
    have ws : w' ≠ s' := fun z => by
      rw [z, upd_ne ns'a, upd_same] at nw'
      cases nw'
    have fresh : H2 w' = none := (upd_ne ws).symm.trans ((upd_ne nw1).symm.trans nw')
    have nes : ∀ {q o}, H2 q = some o → q ≠ s' := fun {q o} e z => by
      rw [z, ns'] at e
      cases e
    have new_ : ∀ {q o}, H2 q = some o → q ≠ w' := fun {q o} e z => by
      rw [z, fresh] at e
      cases e
    refine kt ht _ (mv (D' := D.spend.1.settle) ⟨⟨dx, upd_same⟩, ⟨ys, (upd_ne ns'a).trans (s3 _ _ ((upd_ne ns'a).trans upd_same)), in_.keep sm⟩, ⟨ys, old na hn, in_.keep sm⟩, ⟨[], (upd_ne nw1).trans upd_same, .nil⟩, old pa hp, ⟨(nes hn).symm, ws.symm, (nes hp).symm, new_ hn, np, (new_ hp).symm⟩⟩ (fun q f => ?_) fun q o f e0 => old (fun z => f (.inl z)) e0).1
    rcases f with f | f | f | f | f
    · exact .inl (.inl f)
    · exact .inr (f ▸ ns')
    · exact .inl (.inr (.inr (.inl f)))
    · exact .inr (f ▸ fresh)
    · exact .inl (.inr (.inr (.inr (.inr f))))
abbrev s_Disk_read : Stmt := inClass (top 18) 3
abbrev N_Disk_read : List Str := ["self", "block"]
abbrev P_Disk_read : List Str := ["self", "block"]
theorem sc_Disk_read : FnScope N_Disk_read P_Disk_read (defScope s_Disk_read) := ⟨rfl, rfl, rfl, by decide +kernel, rfl, by decide +kernel, by decide +kernel⟩
def spRead (K : PySem.W.Frag) (C CS CB : Addr) : Sp := fun vs H Q E => ∃ (a : Addr) (b : Int) (D : Dsk) (F : Foot), vs = [.ref a, .int b] ∧ Holds [diskT K C a D] H F ∧ DskOk D ∧ b.natAbs < 2 ^ 64 ∧
  (¬ (0 ≤ b ∧ b < 600) → E (.ref CB) none H) ∧ (0 ≤ b ∧ b < 600 → D.running = false → E (.ref CS) none H) ∧ (0 ≤ b ∧ b < 600 → D.running = true → ∀ v, Is K H v (D.newest.getD b.toNat .non) → Q v H)
theorem ok_read {C CS CB : Addr} (T0 : Txt mg) (C_Disk : DiskC K mg C) (D : DfM K C "read" "Disk.read" s_Disk_read P_Disk_read)
    (G_check_block : Fn P w K mg base (L2.CX P w) 1 "check_block" P_check_block (spCkB CB)) (M_Disk_check_running : Mth P w K mg base (L2.CX P w) 1 C "check_running" P_Disk_check_running (spCkR K C CS)) : Mth P w K mg base (L2.CX P w) 2 C "read" P_Disk_read (spRead K C CS CB) := by
  refine D.okX sc_Disk_read (fun vs H Q E h => ?_) (fun f cdv A outer s H vs Q E hr h => ?_)
  · obtain ⟨a, b, D, F, rfl, _⟩ := h
    rfl
  · obtain ⟨a, b, D, F, rfl, hF, ok, hb, k0, k1, k2⟩ := h
    have nd := sc_Disk_read.nd
    refine ⟨_, (pss_cons (ps_expr (pe_cX (E := fun _ => E) G_check_block (hr.mono (by decide)) (fun σ => passAt (takes_of rfl rfl rfl rfl) σ) (pa_cons (pv 1) pa_nil)))
  (pss_cons (ps_expr (pe_m0 (E := E) (pv 0) C_Disk.cl M_Disk_check_running (hr.mono (by decide)) (passes_at (fun σ => passAt (takes_of rfl rfl rfl rfl) σ))))
  (pss_one (ps_ret (pe_ix ix_list (pe_fldK (K := K) rfl (pv 0) (by rfl)) (pv 1) (fun _ _ => rfl)))))), ?_⟩
    obtain ⟨s, n, w, p, hA, _⟩ := hF.one
    obtain ⟨⟨dx, hi⟩, ⟨xs, hs, is⟩, ⟨ys, hn, in_⟩, _⟩ := id hA
    refine ⟨_, rfl, b, rfl, hb, fun inr => ?_, k0⟩
    refine ⟨_, rfl, a, dx, _, rfl, hi, dn_check, a, s, n, w, p, D, rfl, hA, fun run => ?_, k1 inr⟩
    obtain ⟨bn, rfl⟩ := Int.eq_ofNat_of_zero_le inr.1
    have l := ok.ln
    have hd : D.newest[bn]? = some (D.newest.getD bn .non) := by
      have hl : bn < D.newest.length := by omega
      rw [List.getD_eq_getElem?_getD, List.getElem?_eq_getElem hl]
      rfl
    obtain ⟨v, hv, iv⟩ := in_.to hd
    refine ⟨_, rfl, a, C, dx, _, _, rfl, hi, C_Disk.cl, C_Disk.nN, dl_n, _, rfl, n, ys, (bn : Int), v, rfl, rfl, SqL.of hn, at_of (z := (bn : Int)) (j := bn) rfl hv, ?_⟩
    exact k2 inr run v iv
abbrev s_Disk_blocks : Stmt := inClass (top 18) 7
abbrev N_Disk_blocks : List Str := ["self"]
abbrev P_Disk_blocks : List Str := ["self"]
theorem sc_Disk_blocks : FnScope N_Disk_blocks P_Disk_blocks (defScope s_Disk_blocks) := ⟨rfl, rfl, rfl, by decide +kernel, rfl, by decide +kernel, by decide +kernel⟩
def spBlocks (K : PySem.W.Frag) (C : Addr) : Sp := fun vs H Q _ => ∃ (a : Addr) (D : Dsk) (F : Foot), vs = [.ref a] ∧ Holds [diskT K C a D] H F ∧ ∀ (H' : Hp) (p : Addr) (xs : List V), Same H H' → H p = none → H' p = some (.lst xs) → Iss K H' xs D.settled → Q (.ref p) H'
theorem ok_blocks {C : Addr} (T : Txt mg) (C_Disk : DiskC K mg C) (D : DfM K C "blocks" "Disk.blocks" s_Disk_blocks P_Disk_blocks) : Mth P w K mg base CX0 1 C "blocks" P_Disk_blocks (spBlocks K C) := by
  refine D.ok sc_Disk_blocks (fun vs H Q E h => ?_) (fun f cdv A outer s H vs Q E hr h => ?_)
  · obtain ⟨a, D, F, rfl, _⟩ := h
    rfl
  · obtain ⟨a, D, F, rfl, hF, k⟩ := h
    have nd := sc_Disk_blocks.nd
    refine ⟨_, (pss_one (ps_ret (pe_callTy call_list_of (by rfl) T.b_list (by decide +kernel) (pa_cons (pe_fldK (K := K) rfl (pv 0) (by rfl)) pa_nil)))), ?_⟩
    obtain ⟨s, n, w, p, hA, _⟩ := hF.one
    obtain ⟨⟨dx, hi⟩, ⟨xs, hs, is⟩, _⟩ := id hA
    refine ⟨_, rfl, a, C, dx, _, _, rfl, hi, C_Disk.cl, C_Disk.nS, dl_s, s, _, rfl, .inl (SqL.of hs), fun l nl => ?_⟩
    exact k _ l xs (Same.upd nl) nl upd_same (is.same (Same.upd nl))
def spStop (K : PySem.W.Frag) (T : List (Addr × Str)) (C : Addr) : Sp := fun vs H Q _ => ∃ (a pp : Addr) (D : Dsk) (ps : List Bool) (F : Foot), vs = [.ref a, .ref pp] ∧ Holds [diskT K C a D] H F ∧ LamX.Tabs T H ∧ DskOk D ∧ H pp = some (.lst (ps.map V.bl)) ∧ ¬ F pp ∧
  ∀ H', St T H F [diskT K C a (D.stop ps)] H' → Q .non H'
theorem stop_T {T : List (Addr × Str)} {C : Addr} (M : Mth P w K mg base CX0 1 C "stop" P_Disk_stop (spStopA K C)) : Mth P w K mg base CX0 1 C "stop" P_Disk_stop (spStop K T C) := M.imp fun vs H Q E h => by
  obtain ⟨a, pp, D, ps, F, rfl, hF, hT, ok, hpp, nF, k⟩ := h
  have st0 := St.start hF hT
  obtain ⟨s, n, w, p, hA, mv⟩ := st0.disk
  refine ⟨a, s, n, w, p, pp, D, ps, rfl, hA, ok, hpp, fun z => nF ?_, fun H' hA' out => k _ (mv hA' (fun q f => .inl f) fun q o f e0 => out q o (fun z => f (.inl z)) (fun z => f (.inr (.inl z))) e0).1⟩
  obtain ⟨s2, n2, w2, p2, hA2, e2⟩ := hF.one
  obtain ⟨dx, hi⟩ := hA.ins
  obtain ⟨dx2, hi2⟩ := hA2.ins
  rw [hi] at hi2
  have i2 := Option.some.inj hi2
  unfold dflds at i2
  injection i2 with _ _ i3
  simp only [List.cons.injEq, Prod.mk.injEq, V.ref.injEq, true_and, and_true] at i3
  exact (e2 pp).mpr (.inr (.inl (z.trans i3.1)))
abbrev s_Disk_arm : Stmt := inClass (top 18) 4
abbrev N_Disk_arm : List Str := ["self", "deeds", "picks"]
abbrev P_Disk_arm : List Str := ["self", "deeds", "picks"]
theorem sc_Disk_arm : FnScope N_Disk_arm P_Disk_arm (defScope s_Disk_arm) := ⟨rfl, rfl, rfl, by decide +kernel, rfl, by decide +kernel, by decide +kernel⟩
def spArm (K : PySem.W.Frag) (T : List (Addr × Str)) (C : Addr) : Sp := fun vs H Q _ => ∃ (a pp : Addr) (i : Int) (D : Dsk) (ps : List Bool) (F : Foot), vs = [.ref a, .int i, .ref pp] ∧ Holds [diskT K C a D] H F ∧ LamX.Tabs T H ∧ H pp = some (.lst (ps.map V.bl)) ∧
  ∀ H', St T H F [diskT K C a (D.arm i ps)] H' → Q .non H'
theorem ok_arm {T : List (Addr × Str)} {C : Addr} (T0 : Txt mg) (C_Disk : DiskC K mg C) (D : DfM K C "arm" "Disk.arm" s_Disk_arm P_Disk_arm) : Mth P w K mg base CX0 1 C "arm" P_Disk_arm (spArm K T C) := by
  have T := T0
  refine D.ok sc_Disk_arm (fun vs H Q E h => ?_) (fun f cdv A outer s H vs Q E hr h => ?_)
  · obtain ⟨a, pp, i, D, ps, F, rfl, _⟩ := h
    rfl
  · obtain ⟨a, pp, i, D, ps, F, rfl, hF, hT, hpp, k⟩ := h
    have nd := sc_Disk_arm.nd
    refine ⟨_, (pss_one (ps_if (pt_val (pe_fldK (K := K) rfl (pv 0) (by rfl)))
  (pss_cons (ps_fld (pv 0) (pv 1) rfl)
  (pss_one (ps_fld (pv 0) (pe_callTy call_list_of (by rfl) T.b_list (by decide +kernel) (pa_cons (pv 2) pa_nil)) rfl)))
  pss_nil)), ?_⟩
    have st0 := St.start hF hT
    obtain ⟨s, n, w, p, hA, mv⟩ := st0.disk
    obtain ⟨⟨dx, hi⟩, ⟨xs, hs, is⟩, ⟨ys, hn, in_⟩, ⟨zs, hw, iw⟩, hp, ap⟩ := id hA
    obtain ⟨sa, na, wa, pa⟩ := hA.apart
    obtain ⟨sn, sw, sp, nw, np, wp⟩ := id ap
    refine ⟨_, rfl, a, C, dx, _, _, rfl, hi, C_Disk.cl, C_Disk.nR, dl_r, _, rfl, ?_⟩
    refine ite2 (fun c => ?_) (fun c => ?_)
    · have c' : D.running = true := c
      refine ⟨_, rfl, _, rfl, a, C, dx, _, rfl, hi, C_Disk.cl, C_Disk.nD, d_len, ?_⟩
      rw [dp_d]
      have sm1 : SmT H (L2.upd H a (.ins C dx (dflds (.ref s) (.ref n) (.ref w) (.bl D.running) (.int i) (.ref p)))) := SmT.put hi .ins
      have ppa : pp ≠ a := lst_ins hpp hi
      refine ⟨_, rfl, pp, _, rfl, .inl (SqL.of ((upd_ne ppa).trans hpp)), fun p' np' => ?_⟩
      have p'a : p' ≠ a := fun z => by
        rw [z, upd_same] at np'
        cases np'
      have fresh : H p' = none := (upd_ne p'a).symm.trans np'
      have s2 := Same.upd (o := .lst (ps.map V.bl)) np'
      refine ⟨_, rfl, a, C, dx, _, rfl, s2 _ _ upd_same, C_Disk.cl, C_Disk.nP, d_len, ?_⟩
      rw [dp_p]
      have sm3 : SmT (L2.upd (L2.upd H a (.ins C dx (dflds (.ref s) (.ref n) (.ref w) (.bl D.running) (.int i) (.ref p)))) p' (.lst (ps.map V.bl))) (L2.upd (L2.upd (L2.upd H a (.ins C dx (dflds (.ref s) (.ref n) (.ref w) (.bl D.running) (.int i) (.ref p)))) p' (.lst (ps.map V.bl))) a (.ins C dx (dflds (.ref s) (.ref n) (.ref w) (.bl D.running) (.int i) (.ref p')))) := SmT.put (s2 _ _ upd_same) .ins
      have sm := (sm1.trans (.of s2)).trans sm3
      have old : ∀ {q o}, q ≠ a → H q = some o → (L2.upd (L2.upd (L2.upd H a (.ins C dx (dflds (.ref s) (.ref n) (.ref w) (.bl D.running) (.int i) (.ref p)))) p' (.lst (ps.map V.bl))) a (.ins C dx (dflds (.ref s) (.ref n) (.ref w) (.bl D.running) (.int i) (.ref p')))) q = some o := fun {q o} qa e => (upd_ne qa).trans (s2 _ _ ((upd_ne qa).trans e))
      have nep : ∀ {q o}, H q = some o → q ≠ p' := fun {q o} e z => by
        rw [z, fresh] at e
        cases e
      refine k _ (mv (D' := D.arm i ps) (s' := s) (n' := n) (w' := w) (p' := p') ?_ (fun q f => ?_) fun q o f e0 => old (fun z => f (.inl z)) e0).1
      · unfold Dsk.arm
        rw [if_pos c']
        exact ⟨⟨dx, upd_same⟩, ⟨xs, old sa hs, is.keep sm⟩, ⟨ys, old na hn, in_.keep sm⟩, ⟨zs, old wa hw, iw.keep sm⟩, (upd_ne p'a).trans upd_same, ⟨sn, sw, nep hs, nw, nep hn, nep hw⟩⟩
      · rcases f with f | f | f | f | f
        · exact .inl (.inl f)
        · exact .inl (.inr (.inl f))
        · exact .inl (.inr (.inr (.inl f)))
        · exact .inl (.inr (.inr (.inr (.inl f))))
        · exact .inr (f ▸ fresh)
    · refine k _ ?_
      have e : D.arm i ps = D := by
        unfold Dsk.arm
        rw [if_neg c]
      rw [e]
      exact st0
end
end K3

set_option Elab.async false
set_option linter.all false
set_option maxRecDepth 100000
set_option maxHeartbeats 4000000
/-! KDo: a disk begun again, a new disk -/
namespace K3
open PySem PySem.Spec PyProof.Rows L2
/-- an instance changed, new objects beside it; what was ahead stays -/
structure AU (H H' : Hp) (a C dx : Addr) (fl : List (Str × V)) : Prop where
  at_ : H' a = some (.ins C dx fl)
  old : ∀ q o, q ≠ a → H q = some o → H' q = some o
  sm : SmT H H'
  fr : ∀ q, q ≠ a → H' q = none → H q = none
section
variable {H H1 H' : Hp} {a C dx l : Addr} {fl fl' : List (Str × V)} {o : HO}
theorem AU.refl (h : H a = some (.ins C dx fl)) : AU H H a C dx fl := ⟨h, fun _ _ _ e => e, .refl H, fun _ _ e => e⟩
theorem AU.fld (h : AU H H' a C dx fl) : AU H (L2.upd H' a (.ins C dx fl')) a C dx fl' := ⟨upd_same, fun q o n e => (upd_ne n).trans (h.old q o n e), h.sm.trans (.put h.at_ .ins), fun q n e => h.fr q n ((upd_ne n).symm.trans e)⟩
theorem AU.ne (h : AU H H' a C dx fl) (n : H' l = none) : l ≠ a := fun z => by
  rw [z, h.at_] at n
  cases n
theorem AU.new (h : AU H H' a C dx fl) (n : H' l = none) : AU H (L2.upd H' l o) a C dx fl := ⟨(upd_ne (h.ne n).symm).trans h.at_, fun q u nq e => Same.upd n _ _ (h.old q u nq e), h.sm.trans (.of (Same.upd n)), fun q nq e => h.fr q nq (by
  by_cases c : q = l
  · rw [c, upd_same] at e
    cases e
  · exact (upd_ne c).symm.trans e)⟩
theorem AU.free (h : AU H H' a C dx fl) (n : H' l = none) : H l = none := h.fr l (h.ne n) n
theorem none_ne {q : Addr} {o : HO} (e : H q = some o) (n : H l = none) : q ≠ l := fun z => by
  rw [z, n] at e
  cases e
end
section
variable {P : Program} {w : World} {K : PySem.W.Frag} {mg : Str → Option Value} {base : Heap}
abbrev s_Disk_again : Stmt := inClass (top 18) 6
abbrev N_Disk_again : List Str := ["self"]
abbrev P_Disk_again : List Str := ["self"]
theorem sc_Disk_again : FnScope N_Disk_again P_Disk_again (defScope s_Disk_again) := ⟨rfl, rfl, rfl, by decide +kernel, rfl, by decide +kernel, by decide +kernel⟩
def spAgain (K : PySem.W.Frag) (T : List (Addr × Str)) (C : Addr) : Sp := fun vs H Q _ => ∃ (a : Addr) (D : Dsk) (F : Foot), vs = [.ref a] ∧ Holds [diskT K C a D] H F ∧ LamX.Tabs T H ∧ ∀ H', St T H F [diskT K C a D.again] H' → Q .non H'
theorem ok_again {T : List (Addr × Str)} {C : Addr} (T0 : Txt mg) (C_Disk : DiskC K mg C) (D : DfM K C "again" "Disk.again" s_Disk_again P_Disk_again) : Mth P w K mg base CX0 1 C "again" P_Disk_again (spAgain K T C) := by
  have T := T0
  refine D.ok sc_Disk_again (fun vs H Q E h => ?_) (fun f cdv A outer s H vs Q E hr h => ?_)
  · obtain ⟨a, D, F, rfl, _⟩ := h
    rfl
  · obtain ⟨a, D, F, rfl, hF, hT, k⟩ := h
    have nd := sc_Disk_again.nd
    refine ⟨_, (pss_cons (ps_fld (pv 0) (pe_callTy call_list_of (by rfl) T.b_list (by decide +kernel) (pa_cons (pe_fldK (K := K) rfl (pv 0) (by rfl)) pa_nil)) rfl)
  (pss_cons (ps_fld (pv 0) (pe_lst pa_nil) rfl)
  (pss_cons (ps_fld (pv 0) pe_bl rfl)
  (pss_cons (ps_fld (pv 0) pe_non rfl)
  (pss_one (ps_fld (pv 0) (pe_lst pa_nil) rfl)))))), ?_⟩
    have st0 := St.start hF hT
    obtain ⟨s, n, w, p, hA, mv⟩ := st0.disk
    obtain ⟨⟨dx, hi⟩, ⟨xs, hs, is⟩, ⟨ys, hn, in_⟩, ⟨zs, hw, iw⟩, hp, ap⟩ := id hA
    obtain ⟨sa, na, wa, pa⟩ := hA.apart
    refine ⟨_, rfl, a, C, dx, _, _, rfl, hi, C_Disk.cl, C_Disk.nS, dl_s, s, _, rfl, .inl (SqL.of hs), fun n' nn => ?_⟩
    have u1 := (AU.refl hi).new (o := .lst xs) nn
    have fn := nn
    have na' := (AU.refl hi).ne nn
    refine ⟨_, rfl, a, C, dx, _, rfl, u1.at_, C_Disk.cl, C_Disk.nN, d_len, ?_⟩
    rw [dp_n]
    have u2 := u1.fld (fl' := dflds (.ref s) (.ref n') (.ref w) (.bl D.running) (deedV D.deeds) (.ref p))
    have en2 : (L2.upd (L2.upd H n' (.lst xs)) a (.ins C dx (dflds (.ref s) (.ref n') (.ref w) (.bl D.running) (deedV D.deeds) (.ref p)))) n' = some (.lst xs) := (upd_ne na').trans upd_same
    generalize hH2 : L2.upd (L2.upd H n' (HO.lst xs)) a (HO.ins C dx (dflds (V.ref s) (V.ref n') (V.ref w) (V.bl D.running) (deedV D.deeds) (V.ref p))) = H2 at u2 en2 ⊢
    refine ⟨Nat.zero_le _, fun w' nw => ?_⟩
    have u3 := u2.new (o := .lst []) nw
    have fw := u2.free nw
    have wa' := u2.ne nw
    refine ⟨_, rfl, a, C, dx, _, rfl, u3.at_, C_Disk.cl, C_Disk.nW, d_len, ?_⟩
    rw [dp_w]
    have u4 := u3.fld (fl' := dflds (.ref s) (.ref n') (.ref w') (.bl D.running) (deedV D.deeds) (.ref p))
    have en4 := (upd_ne na' (o := .ins C dx (dflds (.ref s) (.ref n') (.ref w') (.bl D.running) (deedV D.deeds) (.ref p)))).trans (Same.upd (o := .lst []) nw _ _ en2)
    have ew4 : (L2.upd (L2.upd H2 w' (.lst [])) a (.ins C dx (dflds (.ref s) (.ref n') (.ref w') (.bl D.running) (deedV D.deeds) (.ref p)))) w' = some (.lst []) := (upd_ne wa').trans upd_same
    have nwn : n' ≠ w' := none_ne en2 nw
    generalize hH4 : L2.upd (L2.upd H2 w' (HO.lst [])) a (HO.ins C dx (dflds (V.ref s) (V.ref n') (V.ref w') (V.bl D.running) (deedV D.deeds) (V.ref p))) = H4 at u4 en4 ew4 ⊢
    refine ⟨_, rfl, a, C, dx, _, rfl, u4.at_, C_Disk.cl, C_Disk.nR, d_len, ?_⟩
    rw [dp_r]
    have u5 := u4.fld (fl' := dflds (.ref s) (.ref n') (.ref w') (.bl true) (deedV D.deeds) (.ref p))
    refine ⟨_, rfl, a, C, dx, _, rfl, u5.at_, C_Disk.cl, C_Disk.nD, d_len, ?_⟩
    rw [dp_d]
    have u6 := u5.fld (fl' := dflds (.ref s) (.ref n') (.ref w') (.bl true) .non (.ref p))
    have en6 : (L2.upd (L2.upd H4 a (.ins C dx (dflds (.ref s) (.ref n') (.ref w') (.bl true) (deedV D.deeds) (.ref p)))) a (.ins C dx (dflds (.ref s) (.ref n') (.ref w') (.bl true) .non (.ref p)))) n' = some (.lst xs) := (upd_ne na').trans ((upd_ne na').trans en4)
    have ew6 : (L2.upd (L2.upd H4 a (.ins C dx (dflds (.ref s) (.ref n') (.ref w') (.bl true) (deedV D.deeds) (.ref p)))) a (.ins C dx (dflds (.ref s) (.ref n') (.ref w') (.bl true) .non (.ref p)))) w' = some (.lst []) := (upd_ne wa').trans ((upd_ne wa').trans ew4)
    generalize hH6 : L2.upd (L2.upd H4 a (HO.ins C dx (dflds (V.ref s) (V.ref n') (V.ref w') (V.bl true) (deedV D.deeds) (V.ref p)))) a (HO.ins C dx (dflds (V.ref s) (V.ref n') (V.ref w') (V.bl true) V.non (V.ref p))) = H6 at u6 en6 ew6 ⊢
    refine ⟨Nat.zero_le _, fun p' np' => ?_⟩
    have u7 := u6.new (o := .lst []) np'
    have fp := u6.free np'
    have pa' := u6.ne np'
    refine ⟨_, rfl, a, C, dx, _, rfl, u7.at_, C_Disk.cl, C_Disk.nP, d_len, ?_⟩
    rw [dp_p]
    have u8 := u7.fld (fl' := dflds (.ref s) (.ref n') (.ref w') (.bl true) .non (.ref p'))
    refine k _ (mv (D' := D.again) (s' := s) (n' := n') (w' := w') (p' := p') ⟨⟨dx, u8.at_⟩, ⟨xs, u8.old _ _ sa hs, is.keep u8.sm⟩, ⟨xs, (upd_ne na').trans (Same.upd np' _ _ en6), is.keep u8.sm⟩, ⟨[], (upd_ne wa').trans (Same.upd np' _ _ ew6), .nil⟩, (upd_ne pa').trans upd_same, ⟨none_ne hs fn, none_ne hs fw, none_ne hs fp, nwn, none_ne en6 np', none_ne ew6 np'⟩⟩ (fun q f => ?_) fun q o f e0 => u8.old _ _ (fun z => f (.inl z)) e0).1
    rcases f with f | f | f | f | f
    · exact .inl (.inl f)
    · exact .inl (.inr (.inl f))
    · exact .inr (f ▸ fn)
    · exact .inr (f ▸ fw)
    · exact .inr (f ▸ fp)
/-! ### a new one -/
structure DfI (K : PySem.W.Frag) (C : Addr) (qual : Str) (st : Stmt) (ps : List Str) : Prop where
  ex : ∃ (f : Addr) (fd : FuncData), FunD K "__init__" qual (defArgs st) (defBody st) (defScope st) [] [] f fd ∧ Mk K C f ∧ Binds K fd ps []
structure MkI (P : Program) (w : World) (K : PySem.W.Frag) (mg : Str → Option Value) (base : Heap) (CX : CXT) (k : Nat) (x : Str) (C : Addr) (ps : List Str) (sp : Sp) : Prop where
  ex : ∃ (f : Addr) (fd : FuncData), FnOk P w K mg base CX k f fd ps sp ∧ Mk K C f ∧ Binds K fd ps []
  g : mg x = some (.ref C)
theorem DfI.ok {C : Addr} {x qual : Str} {st : Stmt} {N ps : List Str} {k : Nat} {sp : Sp} (D : DfI K C qual st ps) (g : mg x = some (.ref C)) (S : FnScope N ps (defScope st)) (len : ∀ vs H Q E, sp vs H Q E → vs.length = ps.length)
    (hbody : ∀ (f : Addr) (cdv : Value) (A : Around) (outer : List Env) (s : Shared) (H : Hp) (vs : List V) (Q : VK) (E : XK), Room k (A.deeper (envOfC qual (defScope st) s.heap.objs.size f cdv)) → sp vs H Q E →
      ∃ t, PSs (cxOf CX0 P w K mg base N qual (defScope st) f cdv A outer s H E).nox (defBody st) t ∧ t { nx := fun _ H' => Q .non H', rt := Q } (start N vs) H) : MkI P w K mg base CX0 (k + 1) x C ps sp := by
  obtain ⟨f, fd, F, hm, hb⟩ := D.ex
  refine ⟨⟨f, fd, F.ok S len fun cdv A outer s H vs Q E hr hsp => ?_, hm, hb⟩, g⟩
  obtain ⟨t, h, q⟩ := hbody f cdv A outer s H vs Q E hr hsp
  exact ⟨t, h.nox, q⟩
theorem DfI.okX {C : Addr} {x qual : Str} {st : Stmt} {N ps : List Str} {k : Nat} {sp : Sp} (D : DfI K C qual st ps) (g : mg x = some (.ref C)) (S : FnScope N ps (defScope st)) (len : ∀ vs H Q E, sp vs H Q E → vs.length = ps.length)
    (hbody : ∀ (f : Addr) (cdv : Value) (A : Around) (outer : List Env) (s : Shared) (H : Hp) (vs : List V) (Q : VK) (E : XK), Room k (A.deeper (envOfC qual (defScope st) s.heap.objs.size f cdv)) → sp vs H Q E →
      ∃ t, PSs (cxOf (L2.CX P w) P w K mg base N qual (defScope st) f cdv A outer s H E) (defBody st) t ∧ t { nx := fun _ H' => Q .non H', rt := Q } (start N vs) H) : MkI P w K mg base (L2.CX P w) (k + 1) x C ps sp := by
  obtain ⟨f, fd, F, hm, hb⟩ := D.ex
  exact ⟨⟨f, fd, F.ok S len fun cdv A outer s H vs Q E hr hsp => hbody f cdv A outer s H vs Q E hr hsp, hm, hb⟩, g⟩
theorem pe_new0 {X : Cx} {CX : CXT} {k : Nat} {C : Addr} {ps : List Str} {sp : Sp} {E : XK} {x : Str} {p pos : Pos} (M : MkI X.prog X.w X.K X.mg X.base CX k x C ps sp) (hr : Room (k + 1) X.A) (hx : Passes CX X E) (hg : Gl X x := by rfl) (hdb : (x == ("__debug__" : Str)) = false := by decide) :
    PE X (.Call (.Name x p) [] [] pos) (tMake C sp [] E tNil) := by
  obtain ⟨⟨f, fd, G, hm, hb⟩, g⟩ := M
  exact pe_make0 hm G hr hg g hb .nil hx hdb
theorem pe_new {X : Cx} {CX : CXT} {k : Nat} {C : Addr} {ps : List Str} {sp : Sp} {E : XK} {x : Str} {p pos : Pos} {e : Expr} {es : List Expr} {t : TA} (M : MkI X.prog X.w X.K X.mg X.base CX k x C ps sp) (hr : Room (k + 1) X.A) (hx : Passes CX X E) (ha : PA X (e :: es) t) (hg : Gl X x := by rfl) (hdb : (x == ("__debug__" : Str)) = false := by decide)
    (he : starEach (e :: es) X.env = (false, eval e X.env) :: starEach es X.env := by rfl) (hpl : (backTo pos (starEach es X.env)).any (·.1) = false := by rfl) :
    PE X (.Call (.Name x p) (e :: es) [] pos) (tMake C sp [] E t) := by
  obtain ⟨⟨f, fd, G, hm, hb⟩, g⟩ := M
  exact pe_make hm G hr hg g hb .nil hx ha hdb he hpl
abbrev s_Disk___init__ : Stmt := inClass (top 18) 0
abbrev N_Disk___init__ : List Str := ["self"]
abbrev P_Disk___init__ : List Str := ["self"]
theorem sc_Disk___init__ : FnScope N_Disk___init__ P_Disk___init__ (defScope s_Disk___init__) := ⟨rfl, rfl, rfl, by decide +kernel, rfl, by decide +kernel, by decide +kernel⟩
def spDiskI (K : PySem.W.Frag) (C : Addr) : Sp := fun vs H Q _ => ∃ (a dx : Addr), vs = [.ref a] ∧ H a = some (.ins C dx []) ∧
  ∀ H' F, (diskT K C a dskNew).R H' F → (∀ q, F q → q = a ∨ H q = none) → (∀ q o, q ≠ a → H q = some o → H' q = some o) → Q .non H'
theorem pf1 {y : V} : putF "settled" y [] = [(("settled" : Str), y)] := rfl
theorem pf2 {s y : V} : putF "newest" y [(("settled" : Str), s)] = [(("settled" : Str), s), ("newest", y)] := by kernel_rfl
theorem pf3 {s n y : V} : putF "waiting" y [(("settled" : Str), s), ("newest", n)] = [(("settled" : Str), s), ("newest", n), ("waiting", y)] := by kernel_rfl
theorem pf4 {s n w y : V} : putF "running" y [(("settled" : Str), s), ("newest", n), ("waiting", w)] = [(("settled" : Str), s), ("newest", n), ("waiting", w), ("running", y)] := by kernel_rfl
theorem pf5 {s n w r y : V} : putF "deeds" y [(("settled" : Str), s), ("newest", n), ("waiting", w), ("running", r)] = [(("settled" : Str), s), ("newest", n), ("waiting", w), ("running", r), ("deeds", y)] := by kernel_rfl
theorem pf6 {s n w r d y : V} : putF "picks" y [(("settled" : Str), s), ("newest", n), ("waiting", w), ("running", r), ("deeds", d)] = dflds s n w r d y := by kernel_rfl
theorem ok_disk {C : Addr} (T : Txt mg) (TD : TxtD mg) (C_Disk : DiskC K mg C) (D : DfI K C "Disk.__init__" s_Disk___init__ P_Disk___init__) : MkI P w K mg base CX0 1 "Disk" C P_Disk___init__ (spDiskI K C) := by
  refine D.ok C_Disk.g sc_Disk___init__ (fun vs H Q E h => ?_) (fun f cdv A outer s H vs Q E hr h => ?_)
  · obtain ⟨a, dx, rfl, _⟩ := h
    rfl
  · obtain ⟨a, dx, rfl, hi, k⟩ := h
    have nd := sc_Disk___init__.nd
    refine ⟨_, (pss_cons (ps_fld (pv 0) (pe_op op_rep (pe_lst (pa_cons pe_non pa_nil)) (pe_gint TD.c_BLOCKS)) rfl)
  (pss_cons (ps_fld (pv 0) (pe_op op_rep (pe_lst (pa_cons pe_non pa_nil)) (pe_gint TD.c_BLOCKS)) rfl)
  (pss_cons (ps_fld (pv 0) (pe_lst pa_nil) rfl)
  (pss_cons (ps_fld (pv 0) pe_bl rfl)
  (pss_cons (ps_fld (pv 0) pe_non rfl)
  (pss_one (ps_fld (pv 0) (pe_lst pa_nil) rfl))))))), ?_⟩
    have u0 := AU.refl hi
    refine ⟨(by show 1 ≤ sizeLine; decide), fun l1 n1 => ?_⟩
    have u1 := u0.new (o := .lst [.non]) n1
    refine ⟨_, _, _, rfl, rfl, upd_same, by decide, by decide, by decide, fun s ns => ?_⟩
    have u2 := u1.new (o := .lst (List.replicate (600 : Int).toNat [V.non]).flatten) ns
    have sa := u1.ne ns
    have fs := u1.free ns
    refine ⟨_, rfl, a, C, dx, _, rfl, u2.at_, C_Disk.cl, C_Disk.nS, (by decide), ?_⟩
    rw [pf1]
    have u3 := u2.fld (fl' := [(("settled" : Str), .ref s)])
    have es3 : (L2.upd (L2.upd (L2.upd H l1 (.lst [.non])) s (.lst (List.replicate (600 : Int).toNat [V.non]).flatten)) a (.ins C dx [(("settled" : Str), .ref s)])) s = some (.lst (List.replicate (600 : Int).toNat [V.non]).flatten) := (upd_ne sa).trans upd_same
    generalize hH3 : L2.upd (L2.upd (L2.upd H l1 (HO.lst [V.non])) s (HO.lst (List.replicate (600 : Int).toNat [V.non]).flatten)) a (HO.ins C dx [(("settled" : Str), V.ref s)]) = H3 at u3 es3 ⊢
    refine ⟨(by show 1 ≤ sizeLine; decide), fun l2 n2 => ?_⟩
    have u4 := u3.new (o := .lst [.non]) n2
    have es4 := Same.upd (o := .lst [.non]) n2 _ _ es3
    refine ⟨_, _, _, rfl, rfl, upd_same, by decide, by decide, by decide, fun n nn => ?_⟩
    have u5 := u4.new (o := .lst (List.replicate (600 : Int).toNat [V.non]).flatten) nn
    have es5 := Same.upd (o := .lst (List.replicate (600 : Int).toNat [V.non]).flatten) nn _ _ es4
    have na := u4.ne nn
    have fn := u4.free nn
    have sn := none_ne es4 nn
    refine ⟨_, rfl, a, C, dx, _, rfl, u5.at_, C_Disk.cl, C_Disk.nN, (by show 1 < 1000; decide), ?_⟩
    rw [pf2]
    have u6 := u5.fld (fl' := [(("settled" : Str), .ref s), ("newest", .ref n)])
    have es6 := (upd_ne sa (o := .ins C dx [(("settled" : Str), .ref s), ("newest", .ref n)])).trans es5
    have en6 : (L2.upd (L2.upd (L2.upd H3 l2 (.lst [.non])) n (.lst (List.replicate (600 : Int).toNat [V.non]).flatten)) a (.ins C dx [(("settled" : Str), .ref s), ("newest", .ref n)])) n = some (.lst (List.replicate (600 : Int).toNat [V.non]).flatten) := (upd_ne na).trans upd_same
    generalize hH6 : L2.upd (L2.upd (L2.upd H3 l2 (HO.lst [V.non])) n (HO.lst (List.replicate (600 : Int).toNat [V.non]).flatten)) a (HO.ins C dx [(("settled" : Str), V.ref s), ("newest", V.ref n)]) = H6 at u6 es6 en6 ⊢
    refine ⟨Nat.zero_le _, fun w nw => ?_⟩
    have u7 := u6.new (o := .lst []) nw
    have wa := u6.ne nw
    have fw := u6.free nw
    have sw := none_ne es6 nw
    have nw' := none_ne en6 nw
    have es7 := Same.upd (o := .lst []) nw _ _ es6
    have en7 := Same.upd (o := .lst []) nw _ _ en6
    refine ⟨_, rfl, a, C, dx, _, rfl, u7.at_, C_Disk.cl, C_Disk.nW, (by show 2 < 1000; decide), ?_⟩
    rw [pf3]
    have u8 := u7.fld (fl' := [(("settled" : Str), .ref s), ("newest", .ref n), ("waiting", .ref w)])
    refine ⟨_, rfl, a, C, dx, _, rfl, u8.at_, C_Disk.cl, C_Disk.nR, (by show 3 < 1000; decide), ?_⟩
    rw [pf4]
    have u9 := u8.fld (fl' := [(("settled" : Str), .ref s), ("newest", .ref n), ("waiting", .ref w), ("running", .bl true)])
    refine ⟨_, rfl, a, C, dx, _, rfl, u9.at_, C_Disk.cl, C_Disk.nD, (by show 4 < 1000; decide), ?_⟩
    rw [pf5]
    have u10 := u9.fld (fl' := [(("settled" : Str), .ref s), ("newest", .ref n), ("waiting", .ref w), ("running", .bl true), ("deeds", .non)])
    have es10 := (upd_ne sa (o := .ins C dx [(("settled" : Str), .ref s), ("newest", .ref n), ("waiting", .ref w), ("running", .bl true), ("deeds", .non)])).trans ((upd_ne sa (o := .ins C dx [(("settled" : Str), .ref s), ("newest", .ref n), ("waiting", .ref w), ("running", .bl true)])).trans ((upd_ne sa (o := .ins C dx [(("settled" : Str), .ref s), ("newest", .ref n), ("waiting", .ref w)])).trans es7))
    have en10 := (upd_ne na (o := .ins C dx [(("settled" : Str), .ref s), ("newest", .ref n), ("waiting", .ref w), ("running", .bl true), ("deeds", .non)])).trans ((upd_ne na (o := .ins C dx [(("settled" : Str), .ref s), ("newest", .ref n), ("waiting", .ref w), ("running", .bl true)])).trans ((upd_ne na (o := .ins C dx [(("settled" : Str), .ref s), ("newest", .ref n), ("waiting", .ref w)])).trans en7))
    have ew10 := (upd_ne wa (o := .ins C dx [(("settled" : Str), .ref s), ("newest", .ref n), ("waiting", .ref w), ("running", .bl true), ("deeds", .non)])).trans ((upd_ne wa (o := .ins C dx [(("settled" : Str), .ref s), ("newest", .ref n), ("waiting", .ref w), ("running", .bl true)])).trans ((upd_ne wa (o := .ins C dx [(("settled" : Str), .ref s), ("newest", .ref n), ("waiting", .ref w)])).trans (upd_same (H := H6) (a := w) (o := .lst []))))
    generalize hH10 : L2.upd (L2.upd (L2.upd (L2.upd H6 w (HO.lst [])) a (HO.ins C dx [(("settled" : Str), V.ref s), ("newest", V.ref n), ("waiting", V.ref w)])) a (HO.ins C dx [(("settled" : Str), V.ref s), ("newest", V.ref n), ("waiting", V.ref w), ("running", V.bl true)])) a (HO.ins C dx [(("settled" : Str), V.ref s), ("newest", V.ref n), ("waiting", V.ref w), ("running", V.bl true), ("deeds", V.non)]) = H10 at u10 es10 en10 ew10 ⊢
    refine ⟨Nat.zero_le _, fun p np => ?_⟩
    have u11 := u10.new (o := .lst []) np
    have pa := u10.ne np
    have fp := u10.free np
    refine ⟨_, rfl, a, C, dx, _, rfl, u11.at_, C_Disk.cl, C_Disk.nP, (by show 5 < 1000; decide), ?_⟩
    rw [pf6]
    have u12 := u11.fld (fl' := dflds (.ref s) (.ref n) (.ref w) (.bl true) .non (.ref p))
    have i600 : Iss K (L2.upd (L2.upd H10 p (.lst [])) a (.ins C dx (dflds (.ref s) (.ref n) (.ref w) (.bl true) .non (.ref p)))) (List.replicate (600 : Int).toNat [V.non]).flatten (List.replicate 600 .non) := by
      rw [rep_none]
      exact iss_nons 600
    refine k _ (diskF a s n w p) ⟨s, n, w, p, ⟨⟨dx, u12.at_⟩, ⟨_, (upd_ne sa).trans (Same.upd np _ _ es10), i600⟩, ⟨_, (upd_ne na).trans (Same.upd np _ _ en10), i600⟩, ⟨[], (upd_ne wa).trans (Same.upd np _ _ ew10), .nil⟩, (upd_ne pa).trans upd_same, ⟨sn, sw, none_ne es10 np, nw', none_ne en10 np, none_ne ew10 np⟩⟩, fun q => Iff.rfl⟩ (fun q f => ?_) u12.old
    rcases f with f | f | f | f | f
    · exact .inl f
    · exact .inr (f ▸ fs)
    · exact .inr (f ▸ fn)
    · exact .inr (f ▸ fw)
    · exact .inr (f ▸ fp)
end
end K3

set_option Elab.async false
set_option linter.all false
set_option maxRecDepth 100000
set_option maxHeartbeats 4000000
/-! KM: helper defs that make lambdas: their code objects are told, and what they keep -/
namespace K3
open PySem PySem.Spec PyProof.Rows L2
/-- a def by its name, its code object at c -/
structure DfT (K : PySem.W.Frag) (mg : Str → Option Value) (x : Str) (st : Stmt) (ps : List Str) (c : Addr) : Prop where
  ex : ∃ (f : Addr) (fd : FuncData), FunD K x x (defArgs st) (defBody st) (defScope st) [] [] f fd ∧ fd.code = .ref c ∧ mg x = some (.ref f) ∧ Binds K fd ps []
section
variable {P : Program} {w : World} {K : PySem.W.Frag} {mg : Str → Option Value} {base : Heap}
theorem DfT.ok {x : Str} {st : Stmt} {N ps : List Str} {k : Nat} {sp : Sp} {c : Addr} (D : DfT K mg x st ps c) (S : FnScope N ps (defScope st)) (len : ∀ vs H Q E, sp vs H Q E → vs.length = ps.length)
    (hbody : ∀ (f : Addr) (A : Around) (outer : List Env) (s : Shared) (H : Hp) (vs : List V) (Q : VK) (E : XK), Room k (A.deeper (envOfC x (defScope st) s.heap.objs.size f (.ref c))) → sp vs H Q E →
      ∃ t, PSs (cxOf CX0 P w K mg base N x (defScope st) f (.ref c) A outer s H E).nox (defBody st) t ∧ t { nx := fun _ H' => Q .non H', rt := Q } (start N vs) H) : Fn P w K mg base CX0 (k + 1) x ps sp := by
  obtain ⟨f, fd, F, hc, hm, hb⟩ := D.ex
  exact ⟨f, fd, okT F hc S len fun A outer s H vs Q E hr hsp => hbody f A outer s H vs Q E hr hsp, hm, F.kp, hb⟩
/-- .. made from what the head tells -/
theorem dfT_of {x : Str} {st : Stmt} {ps : List Str} {f c : Addr} {fd : FuncData} (F : FunD K x x (defArgs st) (defBody st) (defScope st) [] [] f fd) (hc : fd.code = .ref c) (hm : mg x = some (.ref f)) (hb : Binds K fd ps []) : DfT K mg x st ps c := ⟨f, fd, F, hc, hm, hb⟩
end
/-- all stays but the box and the tables of code objects -/
def OutT (b l : Addr) (H H' : Hp) : Prop := ∀ p o, p ≠ b → p ≠ l → H p = some o → (∀ ps, o ≠ .tbl ps) → H' p = some o
theorem OutT.refl {b l : Addr} {H : Hp} : OutT b l H H := fun _ _ _ _ e _ => e
theorem OutT.trans {b l : Addr} {H H1 H2 : Hp} (a : OutT b l H H1) (c : OutT b l H1 H2) : OutT b l H H2 := fun p o h1 h2 e n => c p o h1 h2 (a p o h1 h2 e n) n
theorem OutT.same {b l : Addr} {H H' : Hp} (s : Same H H') : OutT b l H H' := fun p o _ _ e _ => s p o e
theorem OutT.out {b l : Addr} {H H' : Hp} (s : Out b l H H') : OutT b l H H' := fun p o h1 h2 e _ => s p o h1 h2 e
theorem OutT.ext {b l : Addr} {H H' : Hp} (e : LamX.ExtN H H') : OutT b l H H' := fun p o _ _ h n => e p o h n
theorem OutT.lst {b l p : Addr} {H H' : Hp} {xs : List V} (o : OutT b l H H') (h1 : p ≠ b) (h2 : p ≠ l) (h : H p = some (.lst xs)) : H' p = some (.lst xs) := o p _ h1 h2 h fun _ z => by cases z
end K3

set_option Elab.async false
set_option linter.all false
set_option maxRecDepth 100000
set_option maxHeartbeats 4000000
/-! KU: d.update of a list of pairs -/
namespace K3
open PySem PySem.Spec PyProof.Rows L2
theorem pairs_of {P : Program} {w : World} {H : Hp} {h : Heap} (hok : HOk P w H h) : ∀ {ts : List Addr} {kvs : List (Key × V)}, ts.length = kvs.length → (∀ (i : Nat) (t : Addr) (kv : Key × V), ts[i]? = some t → kvs[i]? = some kv → H t = some (.tup [kV kv.1, kv.2])) →
    ∃ (rs : List (Key × Value)) (ps : List (Value × Value)), KV kvs rs ∧ ps.length = ts.length ∧ ∀ (i : Nat) (u v : Value), ps[i]? = some (u, v) → ∃ t k, ts[i]? = some t ∧ h.IsTuple t #[u, v] ∧ rs[i]? = some (k, v) ∧ (mixKind P w).is k u = true
  | [], [], _, _ => ⟨[], [], .nil, rfl, fun i u v e => by cases e⟩
  | [], _ :: _, l, _ => by cases l
  | _ :: _, [], l, _ => by cases l
  | t :: ts, kv :: kvs, l, e => by
    obtain ⟨rs, ps, h1, h2, h3⟩ := pairs_of hok (ts := ts) (kvs := kvs) (by simpa using l) fun i t kv a b => e (i + 1) t kv a b
    obtain ⟨_, its, r, o, g1, g2, n, g3⟩ := (show ObjOk P w H h t (.tup [kV kv.1, kv.2]) from hok t _ (e 0 t kv rfl rfl))
    obtain ⟨u, v, rfl, ru, rv⟩ := vals2 r
    refine ⟨(kv.1, v) :: rs, (u, v) :: ps, .cons ⟨rfl, rv⟩ h1, by rw [List.length_cons, List.length_cons, h2], fun i u' v' a => ?_⟩
    cases i with
    | zero =>
      cases a
      exact ⟨t, kv.1, rfl, ⟨o, g1, g2, n, g3⟩, rfl, kV_is ru⟩
    | succ i => exact h3 i u' v' a
def rUpdP : V → List V → Hp → VK → Prop := fun x vs H Q => ∃ (d l : Addr) (acc kvs : List (Key × V)) (ts : List Addr), x = .ref d ∧ vs = [.ref l] ∧ H d = some (.dK acc) ∧ H l = some (.lst (ts.map V.ref)) ∧ ts.length = kvs.length ∧
  (∀ (i : Nat) (t : Addr) (kv : Key × V), ts[i]? = some t → kvs[i]? = some kv → H t = some (.tup [kV kv.1, kv.2])) ∧ acc.length + kvs.length ≤ 1000 ∧ Q .non (L2.upd H d (.dK (mergeK acc kvs)))
theorem mt_updateP {X : Cx} (hc : X.calm = true) : MtR X "dict.update" rUpdP := by
  intro pins s σ H x vs v us Q I rx rv h
  obtain ⟨d, l, acc, kvs, ts, rfl, rfl, hd, hl, hlen, hts, hsz, q⟩ := h
  cases rx
  obtain ⟨u, rfl, ru⟩ := rv.one
  cases ru
  obtain ⟨z, its, n, r, hl2, e⟩ := I.lstM hl
  obtain ⟨rs, ps, h1, h2, h3⟩ := pairs_of (P := X.prog) (w := X.w) I.hok hlen hts
  obtain ⟨z1, hd1, vs, rel, dd⟩ := dk_of I.hok hd
  have hlr : rs.length = kvs.length := (Paired.length h1).symm
  have item : ∀ (j : Nat) (t : Addr), ts[j]? = some t → its[j]? = some (Value.ref t) := fun j t hj => by
    have hm : (ts.map V.ref)[j]? = some (V.ref t) := by
      rw [List.getElem?_map, hj]
      rfl
    obtain ⟨u, hu, ru⟩ := r.get hm
    rw [hu, show u = Value.ref t from ru]
  have gd : ∀ (j : Nat) (t : Addr), ts[j]? = some t → ts.getD j 0 = t := fun j t hj => by
    rw [List.getD_eq_getElem?_getD, hj] <;> rfl
  have lts : its.length = ts.length := by
    have := r.length
    rw [List.length_map] at this
    exact this.symm
  have P := PairArg.list (prog := X.prog) (w := X.w) l its.toArray (fun j => ts.getD j 0) ps
  refine call_update_pairs (knd := mixKind X.prog X.w) (acc := vs) (kvs := rs) P (I.ok.hd hc) ⟨⟨_, n, e, rfl, rfl, rfl⟩, by rw [List.size_toArray]; omega, fun j k v hj => ?_⟩ ?_ ⟨by omega, fun i key v hr => ?_⟩ dd (by have := Paired.length rel; rw [sizeLine_eq]; omega) fun h' tk hm hk => ?_
  · obtain ⟨t, k', e1, e2, _⟩ := h3 j k v hj
    refine ⟨?_, .inl ?_⟩
    · show its.toArray[j]? = some (Value.ref (ts.getD j 0))
      rw [List.getElem?_toArray, item j t e1, gd j t e1]
    · show s.heap.IsTuple (ts.getD j 0) _
      rw [gd j t e1]
      exact e2
  · intro hm
    rcases List.mem_cons.mp hm with hm | hm
    · rw [hm, hl] at hd
      cases hd
    · obtain ⟨j, hj, ej⟩ := List.mem_map.mp hm
      have hj : j < ts.length := by
        have := List.mem_range.mp hj
        omega
      have e1 : ts[j]? = some ts[j] := List.getElem?_eq_getElem hj
      have e2 : kvs[j]? = some (kvs[j]'(by omega)) := List.getElem?_eq_getElem _
      have e3 := hts j _ _ e1 e2
      have ej : ts.getD j 0 = d := ej
      rw [gd j _ e1] at ej
      rw [ej, hd] at e3
      cases e3
  · obtain ⟨t, k', e1, e2, e3, e4⟩ := h3 i key v hr
    exact ⟨k', e3, e4⟩
  · have hz : (mergeK acc kvs).length ≤ sizeLine := by
      have := length_mergeK kvs acc
      rw [sizeLine_eq]
      omega
    have he : ∃ q, h'.get? d = some q := let ⟨q, _, _, hq, _⟩ := hm; ⟨q, hq⟩
    exact ⟨.non, _, I.write (x := d) (e := d) (by rw [hd]; exact True.intro) (.inl rfl) (fun b o hb e => hk b o hb (by simp) e) he (dk_new hz hd1 (h1.merge rel) hm), rfl, q⟩
end K3

set_option Elab.async false
set_option linter.all false
set_option maxRecDepth 100000
set_option maxHeartbeats 4000000
/-! KBx: drawing from the box, what stands beside it told as things; tuples joined; a list picked from -/
namespace K3
open PySem PySem.Spec PyProof.Rows L2
section
variable {T : List (Addr × Str)} {H0 H H' : Hp} {F0 : Foot} {A B : Thing} {As : List Thing} {b q p : Addr} {xs ys : List V}
theorem St.swap (h : St T H0 F0 (A :: B :: As) H) : St T H0 F0 (B :: A :: As) H := h.perm (List.Perm.swap B A As)
theorem St.rot (h : St T H0 F0 (A :: B :: As) H) : St T H0 F0 (B :: (As ++ [A])) H := h.perm ((List.perm_append_comm (l₁ := [A]) (l₂ := B :: As)))
theorem St.del (h : St T H0 F0 (A :: As) H) : St T H0 F0 As H := (h.perm (List.perm_append_comm (l₁ := [A]) (l₂ := As))).drop
theorem St.new2 (h : St T H0 F0 (A :: As) H) (n : H q = none) : St T H0 F0 (A :: lstT q xs :: As) (L2.upd H q (.lst xs)) := (h.new n).swap
theorem St.lst2 (h : St T H0 F0 (A :: lstT q xs :: As) H) : H q = some (.lst xs) := h.swap.lst
theorem St.del2 (h : St T H0 F0 (A :: B :: As) H) : St T H0 F0 (A :: As) H := h.swap.del
theorem St.lst3 (h : St T H0 F0 (A :: B :: lstT q xs :: As) H) : H q = some (.lst xs) := h.del.swap.lst
theorem St.put2 (h : St T H0 F0 (A :: lstT p xs :: As) H) : St T H0 F0 (A :: lstT p ys :: As) (L2.upd H p (.lst ys)) := (St.put h.swap).swap
theorem St.smPut2 (h : St T H0 F0 (A :: lstT p xs :: As) H) {o : HO} : SmT H (L2.upd H p o) := fun b u e k => by
  by_cases c : b = p
  · rw [c, h.lst2] at e
    have e := Option.some.inj e
    rcases k with ⟨xs, k⟩ | ⟨ob, xs, k⟩ <;> rw [k] at e <;> cases e
  · exact (upd_ne c).trans e
end
/-- a draw -/
def spDraw (T : List (Addr × Str)) : Sp := fun vs H Q _ => ∃ (b : Addr) (m : Int), vs = [.ref b, .int m] ∧ ∃ (H0 : Hp) (F0 : Foot) (As : List Thing), St T H0 F0 (boxT b :: As) H ∧ 0 < m ∧ m < 2000000000000000000 ∧
  ∀ (H' : Hp) (v : Int), St T H0 F0 (boxT b :: As) H' → SmT H H' → 0 ≤ v → v < m → Q (.int v) H'
section
variable {P : Program} {w : World} {K : PySem.W.Frag} {mg : Str → Option Value} {base : Heap}
theorem draw_of {T : List (Addr × Str)} {CX : CXT} {k : Nat} {ps : List Str} (G : Fn P w K mg base CX k "_law_take" ps spTake) : Fn P w K mg base CX k "_law_take" ps (spDraw T) := G.imp fun vs H Q E h => by
  obtain ⟨b, m, rfl, H0, F0, As, st, m0, m1, k⟩ := h
  obtain ⟨l, B, mv⟩ := st.drawn
  refine ⟨b, l, m, rfl, B, m0, m1, fun H' v B' O v0 v1 => ?_⟩
  obtain ⟨st', sm⟩ := mv H' B' O
  exact k H' v st' sm v0 v1
/-- the law's beginning: a box -/
def spBox (T : List (Addr × Str)) (K : PySem.W.Frag) : Sp := fun vs H Q _ => ∃ (a : Addr) (ns : List Int) (H0 : Hp) (F0 : Foot) (As : List Thing), vs = [.ref a] ∧ SqL K H a (ns.map V.int) ∧ ns.length ≤ 63 ∧ St T H0 F0 As H ∧ ∀ H' b, St T H0 F0 (boxT b :: As) H' → SmT H H' → Q (.ref b) H'
end
theorem ix_listK' {X : Cx} {K : PySem.W.Frag} (e : X.K = K) : IxR X (rIxL K) := by
  subst e
  exact ix_list
theorem sl_listK' {X : Cx} {K : PySem.W.Frag} (e : X.K = K) : SlR X (rSlL K) := by
  subst e
  exact sl_list
def rCatT (K : PySem.W.Frag) : R2 := fun x y H Q => ∃ a b xs ys, x = .ref a ∧ y = .ref b ∧ SqT K H a xs ∧ SqT K H b ys ∧ xs.length + ys.length ≤ sizeLine ∧ ∀ p H', Same H H' → SqT K H' p (xs ++ ys) → Q (.ref p) H'
theorem op_catTK {X : Cx} {K : PySem.W.Frag} (e : X.K = K) : OpR X (binaryOp .Add) (rCatT K) := by
  subst e
  intro pins s σ H x y v u Q I rx ry ⟨a, b, xs, ys, ex, ey, ha, hb, hz, q⟩
  refine op_catA pins s σ H x y v u Q I rx ry ⟨a, b, xs, ys, ex, ey, ha, hb, hz, fun e => q b H (.refl H) (by rw [e]; exact hb), fun _ e => q a H (.refl H) (by rw [e, List.append_nil]; exact ha), fun _ _ p np => q p _ (Same.upd np) (SqT.of upd_same)⟩
theorem cut_to (xs : List V) (m : Nat) : cutV xs none (some (m : Int)) = xs.take m := by
  unfold cutV
  rw [HT.sIx_none, HT.sIx_nat, Nat.sub_zero, List.drop_zero]
  by_cases c : m ≤ xs.length
  · rw [Nat.min_eq_left c]
  · rw [Nat.min_eq_right (by omega), List.take_length, List.take_of_length_le (by omega)]
theorem cut_from (xs : List V) (m : Nat) : cutV xs (some (m : Int)) none = xs.drop m := by
  unfold cutV
  rw [HT.sIx_none, HT.sIx_nat]
  by_cases c : m ≤ xs.length
  · rw [Nat.min_eq_left c, List.take_of_length_le (by rw [List.length_drop]; omega)]
  · rw [Nat.min_eq_right (by omega), List.drop_length, List.drop_of_length_le (by omega)]
    exact List.take_nil
/-- an item at a drawn place -/
theorem pickV {zs : List V} {v : Int} (h0 : 0 ≤ v) (h1 : v < (zs.length : Int)) : ∃ y, y ∈ zs ∧ atI zs v = some y := by
  obtain ⟨n, rfl⟩ := Int.eq_ofNat_of_zero_le h0
  have hn : n < zs.length := by omega
  exact ⟨zs[n], List.getElem_mem hn, at_of (z := (n : Int)) (j := n) rfl (List.getElem?_eq_getElem hn)⟩
theorem pickZ {zs : List Int} {v : Int} (h0 : 0 ≤ v) (h1 : v < (zs.length : Int)) : ∃ y, y ∈ zs ∧ atI (zs.map V.int) v = some (.int y) := by
  obtain ⟨n, rfl⟩ := Int.eq_ofNat_of_zero_le h0
  have hn : n < zs.length := by omega
  exact ⟨zs[n], List.getElem_mem hn, at_of (z := (n : Int)) (j := n) rfl (by rw [List.getElem?_map, List.getElem?_eq_getElem hn]; rfl)⟩
end K3

set_option Elab.async false
set_option linter.all false
set_option maxRecDepth 100000
set_option maxHeartbeats 4000000
/-! K13A: what is put into blocks, and what it weighs by the law's own count -/
namespace K3
open PySem PySem.Spec PyProof.Rows L2
theorem leaf_size {d : Dat} (h : DOk 0 d) : d.size = 1 ∧ d.weight = 1 := by
  cases h <;> exact ⟨rfl, rfl⟩
theorem leaves_size : ∀ {ds : List Dat}, (∀ d ∈ ds, DOk 0 d) → sizes ds = ds.length
  | [], _ => rfl
  | d :: ds, h => by
    have a := leaf_size (h d (List.mem_cons_self ..))
    have b := leaves_size fun e he => h e (List.mem_cons_of_mem _ he)
    show d.size + sizes ds = ds.length + 1
    omega
section
variable {P : Program} {w : World} {K : PySem.W.Frag} {mg : Str → Option Value} {base : Heap}
abbrev s__law_nest : Stmt := top 28
abbrev N__law_nest : List Str := ["_law_box", "_law_parts", "_law_deep", "_law_at"]
abbrev P__law_nest : List Str := ["_law_box", "_law_parts", "_law_deep"]
theorem sc__law_nest : FnScope N__law_nest P__law_nest (defScope s__law_nest) := ⟨rfl, rfl, rfl, by decide +kernel, rfl, by decide +kernel, by decide +kernel⟩
def spNest (K : PySem.W.Frag) (T : List (Addr × Str)) (n : Nat) : Sp := fun vs H Q _ => ∃ (b pp : Addr) (m : Nat) (H0 : Hp) (F0 : Foot) (As : List Thing) (xs : List V) (ds : List Dat), vs = [.ref b, .ref pp, .int (m : Int)] ∧ m < n ∧ St T H0 F0 (boxT b :: lstT pp xs :: As) H ∧ Iss K H xs ds ∧ (∀ d ∈ ds, DOk 0 d) ∧ ds.length ≤ 60 ∧
  ∀ H' v d, St T H0 F0 (boxT b :: lstT pp xs :: As) H' → SmT H H' → Is K H' v d → DOk (m + 1) d → d.size + 2 ≤ ds.length + 3 * 2 ^ m → Q v H'
theorem ok_nestS {T : List (Addr × Str)} {n : Nat} (T0 : Txt mg) (D : Df K mg "_law_nest" s__law_nest P__law_nest) (G__law_take : Fn P w K mg base CX0 1 "_law_take" P__law_take (spDraw T))
    (G_nest : Fn P w K mg base CX0 (1 + n) "_law_nest" P__law_nest (spNest K T n)) : Fn P w K mg base CX0 (1 + n + 1) "_law_nest" P__law_nest (spNest K T (n + 1)) := by
  have Tb := T0
  refine D.ok sc__law_nest (fun vs H Q E h => ?_) (fun f cdv A outer s H vs Q E hrn h => ?_)
  · obtain ⟨b, pp, m, H0, F0, As, xs, ds, rfl, _⟩ := h
    rfl
  · obtain ⟨b, pp, m, H0, F0, As, xs, ds, rfl, hm, st, ix, leaf, hl, k⟩ := h
    have nd := sc__law_nest.nd
    have hr := hrn.mono (Nat.le_add_right 1 n)
    have T := Tb
    refine ⟨_, (pss_cons (ps_set (i := 3) nd rfl (by first | exact Or.inl rfl | exact Or.inr rfl) (pe_c G__law_take (hr.mono (by decide)) pass0 (pa_cons (pv 0) (pa_cons (pe_op op_add (pe_callB call_len_seq (by rfl) T.b_len (by decide +kernel) (pa_cons (pv 1) pa_nil)) pe_int) pa_nil))))
  (pss_cons (ps_if (pt_cmpR op_eq (pv 2) pe_int (nomark _))
  (pss_one (ps_ret (pe_callTy call_tuple_of (by rfl) T.b_tuple (by decide +kernel) (pa_cons (pv 1) pa_nil))))
  pss_nil)
  (pss_cons (ps_if (pt_cmpR op_eq (pe_c G__law_take (hr.mono (by decide)) pass0 (pa_cons (pv 0) (pa_cons pe_int pa_nil))) pe_int (nomark _))
  (pss_one (ps_ret (pe_tup (pa_cons (pe_c G_nest hrn pass0 (pa_cons (pv 0) (pa_cons (pe_slice sl_list (pv 1) po_none (po_some (pv 3))) (pa_cons (pe_op op_sub (pv 2) pe_int) pa_nil)))) (pa_cons (pe_tup pa_nil) (pa_cons (pe_c G_nest hrn pass0 (pa_cons (pv 0) (pa_cons (pe_slice sl_list (pv 1) (po_some (pv 3)) po_none) (pa_cons (pe_op op_sub (pv 2) pe_int) pa_nil)))) pa_nil))))))
  pss_nil)
  (pss_one (ps_ret (pe_op (op_catTK (K := K) rfl) (pe_callTy call_tuple_of (by rfl) T.b_tuple (by decide +kernel) (pa_cons (pe_slice sl_list (pv 1) po_none (po_some (pv 3))) pa_nil)) (pe_tup (pa_cons (pe_c G_nest hrn pass0 (pa_cons (pv 0) (pa_cons (pe_slice sl_list (pv 1) (po_some (pv 3)) po_none) (pa_cons (pe_op op_sub (pv 2) pe_int) pa_nil)))) pa_nil)))))))), ?_⟩
    have lx := ix.1
    refine ⟨_, rfl, _, rfl, pp, _, rfl, .inl (SqL.of st.lst2), _, _, rfl, rfl, b, _, rfl, H0, F0, _, st, by omega, by omega, fun H1 at1 st1 sm1 a0 a1 => ?_⟩
    obtain ⟨i, rfl⟩ := Int.eq_ofNat_of_zero_le a0
    have hi : i ≤ xs.length := by omega
    have ix1 := ix.keep sm1
    refine ⟨_, rfl, rfl, _, rfl, ?_⟩
    refine ite2 (fun c => ?_) (fun c => ?_)
    · have c' : (m : Int) = 0 := V.int.inj (of_decide_eq_true c)
      obtain rfl : m = 0 := by omega
      refine ⟨_, rfl, pp, _, rfl, .inl ⟨SqL.of st1.lst2, fun l nl => ?_⟩⟩
      refine k _ _ (.tup ds) (st1.same (Same.upd nl)) (sm1.trans (.of (Same.upd nl))) (ix1.made nl) (.tup (by omega) fun d hd => leaf d hd) ?_
      show 1 + sizes ds + 2 ≤ _
      rw [leaves_size leaf]
      omega
    · have c' : ¬ m = 0 := fun z => c (decide_eq_true (congrArg V.int (by omega)))
      obtain ⟨j, rfl⟩ : ∃ j, m = j + 1 := ⟨m - 1, by omega⟩
      have hp : 2 ^ (j + 1) = 2 ^ j * 2 := Nat.pow_succ 2 j
      have hp0 : 1 ≤ 2 ^ j := Nat.one_le_two_pow
      have ej : ((j + 1 : Nat) : Int) - 1 = (j : Int) := by omega
      refine ⟨_, rfl, b, 3, rfl, H0, F0, _, st1, by decide, by decide, fun H2 z st2 sm2 z0 z1 => ⟨rfl, _, rfl, ?_⟩⟩
      have ix2 := ix1.keep sm2
      refine ite2 (fun c2 => ?_) (fun c2 => ?_)
      · refine ⟨_, rfl, _, rfl, _, rfl, _, rfl, pp, _, rfl, SqL.of st2.lst2, fun p1 np1 => ?_⟩
        have st3 := st2.new2 (xs := cutV xs none (some (i : Int))) np1
        have ix3 := ix2.same (Same.upd (o := .lst (cutV xs none (some (i : Int)))) np1)
        refine ⟨_, rfl, _, _, rfl, rfl, b, p1, j, H0, F0, lstT pp xs :: As, _, ds.take i, by rw [← ej]; rfl, by omega, st3, ?_, fun d hd => leaf d (List.mem_of_mem_take hd), by rw [List.length_take]; omega, fun H4 v1 d1 st4 sm4 i1 ok1 z1 => ?_⟩
        · have hx := ix3.take i
          rw [← cut_to xs i] at hx
          exact hx
        have ix4 := ix3.keep sm4
        have st4 := st4.del2
        refine ⟨Nat.zero_le _, fun t0 nt0 => ?_⟩
        have st5 := st4.same (Same.upd (o := .tup []) nt0)
        have i15 := i1.same (Same.upd (o := .tup []) nt0)
        have ie : Is K (L2.upd H4 t0 (.tup [])) (.ref t0) (.tup []) := Iss.nil.made nt0
        have ix5 := ix4.same (Same.upd (o := .tup []) nt0)
        refine ⟨_, rfl, _, rfl, _, rfl, _, rfl, pp, _, rfl, SqL.of st5.lst2, fun p2 np2 => ?_⟩
        have st6 := st5.new2 (xs := cutV xs (some (i : Int)) none) np2
        have s6 := Same.upd (o := .lst (cutV xs (some (i : Int)) none)) np2
        have ix6 := ix5.same s6
        refine ⟨_, rfl, _, _, rfl, rfl, b, p2, j, H0, F0, lstT pp xs :: As, _, ds.drop i, by rw [← ej]; rfl, by omega, st6, ?_, fun d hd => leaf d (List.mem_of_mem_drop hd), by rw [List.length_drop]; omega, fun H7 v2 d2 st7 sm7 i2 ok2 z2 => ?_⟩
        · have hx := ix6.drop i
          rw [← cut_from xs i] at hx
          exact hx
        have st7 := st7.del2
        refine ⟨(by show 3 ≤ sizeLine; decide), fun p np => ?_⟩
        have it := (Iss.cons ((i15.same s6).keep sm7) (Iss.cons ((ie.same s6).keep sm7) (Iss.cons i2 .nil))).made np
        refine k _ _ _ (st7.same (Same.upd np)) ?_ it (.tup (by show 3 ≤ 10000; decide) fun d hd => ?_) ?_
        · exact sm1.trans (sm2.trans ((SmT.of (Same.upd np1)).trans (sm4.trans ((SmT.of (Same.upd nt0)).trans ((SmT.of s6).trans (sm7.trans (.of (Same.upd np))))))))
        · simp only [List.mem_cons, List.not_mem_nil, or_false] at hd
          rcases hd with rfl | rfl | rfl
          · exact ok1
          · exact .tup (Nat.zero_le _) fun d hd => nomatch hd
          · exact ok2
        · show 1 + (d1.size + (1 + (d2.size + 0))) + 2 ≤ _
          rw [List.length_take] at z1
          rw [List.length_drop] at z2
          have e1 : min i ds.length = i := Nat.min_eq_left (by omega)
          rw [e1] at z1
          omega
      · refine ⟨_, rfl, _, rfl, _, rfl, pp, _, rfl, SqL.of st2.lst2, fun p1 np1 => ?_⟩
        have s3 := Same.upd (o := .lst (cutV xs none (some (i : Int)))) np1
        have st3 := st2.same s3
        have ix3 := ix2.same s3
        refine ⟨p1, _, rfl, .inl ⟨SqL.of upd_same, fun l nl => ?_⟩⟩
        have s4 := Same.upd (H := L2.upd H2 p1 (.lst (cutV xs none (some (i : Int))))) (o := .tup (cutV xs none (some (i : Int)))) nl
        have st4 := st3.same s4
        have ix4 := ix3.same s4
        have hl4 : SqT K (L2.upd (L2.upd H2 p1 (.lst (cutV xs none (some (i : Int))))) l (.tup (cutV xs none (some (i : Int))))) l (cutV xs none (some (i : Int))) := SqT.of upd_same
        generalize hH4 : L2.upd (L2.upd H2 p1 (HO.lst (cutV xs none (some (i : Int))))) l (HO.tup (cutV xs none (some (i : Int)))) = H4 at s4 st4 ix4 hl4 ⊢
        refine ⟨_, rfl, _, rfl, _, rfl, _, rfl, pp, _, rfl, SqL.of st4.lst2, fun p2 np2 => ?_⟩
        have st6 := st4.new2 (xs := cutV xs (some (i : Int)) none) np2
        have s6 := Same.upd (o := .lst (cutV xs (some (i : Int)) none)) np2
        have ix6 := ix4.same s6
        refine ⟨_, rfl, _, _, rfl, rfl, b, p2, j, H0, F0, lstT pp xs :: As, _, ds.drop i, by rw [← ej]; rfl, by omega, st6, ?_, fun d hd => leaf d (List.mem_of_mem_drop hd), by rw [List.length_drop]; omega, fun H7 v2 d2 st7 sm7 i2 ok2 z2 => ?_⟩
        · have hx := ix6.drop i
          rw [← cut_from xs i] at hx
          exact hx
        have st7 := st7.del2
        have hl7 := sm7.seqT ((SmT.of s6).seqT hl4)
        have ix7 := ix6.keep sm7
        refine ⟨(by show 1 ≤ sizeLine; decide), fun t nt => ?_⟩
        have s8 := Same.upd (o := .tup [v2]) nt
        have lt : (cutV xs none (some (i : Int))).length = i := by
          rw [cut_to, List.length_take]
          omega
        refine ⟨l, t, _, _, rfl, rfl, (SmT.of s8).seqT hl7, SqT.of upd_same, by rw [lt, sizeLine_eq]; show i + 1 ≤ _; omega, fun p H9 s9 hp9 => ?_⟩
        have it : Is K H9 (.ref p) (.tup (ds.take i ++ [d2])) := by
          refine Iss.tup ?_ hp9
          rw [cut_to]
          exact (((ix7.take i).app (Iss.cons i2 .nil)).same s8).same s9
        refine k _ _ _ ((st7.same s8).same s9) ?_ it (.tup ?_ fun d hd => ?_) ?_
        · exact sm1.trans (sm2.trans ((SmT.of s3).trans ((SmT.of s4).trans ((SmT.of s6).trans (sm7.trans ((SmT.of s8).trans (.of s9)))))))
        · rw [List.length_append, List.length_take]
          show _ + 1 ≤ _
          omega
        · rcases List.mem_append.mp hd with hd | hd
          · exact (leaf d (List.mem_of_mem_take hd)).mono (Nat.zero_le _)
          · rw [List.mem_singleton.mp hd]
            exact ok2
        · show 1 + sizes (ds.take i ++ [d2]) + 2 ≤ _
          rw [sizes_app, leaves_size fun d hd => leaf d (List.mem_of_mem_take hd), sizes_one, List.length_take]
          rw [List.length_drop] at z2
          omega
theorem ok_nest {T : List (Addr × Str)} (T0 : Txt mg) (D : Df K mg "_law_nest" s__law_nest P__law_nest) (G__law_take : Fn P w K mg base CX0 1 "_law_take" P__law_take (spDraw T)) : ∀ n, Fn P w K mg base CX0 (1 + n) "_law_nest" P__law_nest (spNest K T n)
  | 0 => by
    refine D.ok sc__law_nest (fun vs H Q E h => ?_) (fun f cdv A outer s H vs Q E hrn h => ?_)
    · obtain ⟨b, pp, m, H0, F0, As, xs, ds, rfl, hm, _⟩ := h
      exact absurd hm (Nat.not_lt_zero _)
    · obtain ⟨b, pp, m, H0, F0, As, xs, ds, rfl, hm, _⟩ := h
      exact absurd hm (Nat.not_lt_zero _)
  | n + 1 => ok_nestS T0 D G__law_take (ok_nest T0 D G__law_take n)
end
end K3

set_option Elab.async false
set_option linter.all false
set_option maxRecDepth 100000
set_option maxHeartbeats 4000000
/-! K13B: what is put into blocks -/
namespace K3
open PySem PySem.Spec PyProof.Rows L2
section
variable {P : Program} {w : World} {K : PySem.W.Frag} {mg : Str → Option Value} {base : Heap}
abbrev s__law_what : Stmt := top 29
abbrev N__law_what : List Str := ["_law_box", "_law_way", "_law_some", "_law_parts", "_law_k"]
abbrev P__law_what : List Str := ["_law_box"]
theorem sc__law_what : FnScope N__law_what P__law_what (defScope s__law_what) := ⟨rfl, rfl, rfl, by decide +kernel, rfl, by decide +kernel, by decide +kernel⟩
def spWhat (K : PySem.W.Frag) (T : List (Addr × Str)) : Sp := fun vs H Q _ => ∃ (b : Addr) (H0 : Hp) (F0 : Foot) (As : List Thing), vs = [.ref b] ∧ St T H0 F0 (boxT b :: As) H ∧
  ∀ H' v d, St T H0 F0 (boxT b :: As) H' → SmT H H' → Is K H' v d → DOk 5 d → d.size ≤ 100 → Q v H'
theorem ok_what {T : List (Addr × Str)} (T0 : Txt mg) (D : Df K mg "_law_what" s__law_what P__law_what) (G__law_take : Fn P w K mg base CX0 1 "_law_take" P__law_take (spDraw T))
    (G__law_nest : Fn P w K mg base CX0 5 "_law_nest" P__law_nest (spNest K T 4)) : Fn P w K mg base CX0 6 "_law_what" P__law_what (spWhat K T) := by
  have Tb := T0
  refine D.ok sc__law_what (fun vs H Q E h => ?_) (fun f cdv A outer s H vs Q E hr h => ?_)
  · obtain ⟨b, H0, F0, As, rfl, _⟩ := h
    rfl
  · obtain ⟨b, H0, F0, As, rfl, st, k⟩ := h
    have nd := sc__law_what.nd
    have T := Tb
    refine ⟨_, (pss_cons (ps_set (i := 1) nd rfl (by first | exact Or.inl rfl | exact Or.inr rfl) (pe_c G__law_take (hr.mono (by decide)) pass0 (pa_cons (pv 0) (pa_cons pe_int pa_nil))))
  (pss_cons (ps_if (pt_cmpR op_eq (pv 1) pe_int (nomark _))
  (pss_cons (ps_set (i := 2) nd rfl (by first | exact Or.inl rfl | exact Or.inr rfl) (pe_lst (pa_cons (pe_c G__law_take (hr.mono (by decide)) pass0 (pa_cons (pv 0) (pa_cons pe_int pa_nil))) (pa_cons pe_str (pa_cons pe_non (pa_cons pe_bl pa_nil))))))
  (pss_cons (ps_setLc (i := 3) (own := [("_law_k", 4)]) (g := gName 4) (by rfl) nd rfl rfl (sw_true rfl rfl rfl (by decide +kernel)) (pi_range1 (by rfl) T.b_range (pa_cons (pe_op op_add pe_int (pe_c G__law_take (hr.mono (by decide)) pass0 (pa_cons (pv 0) (pa_cons pe_int pa_nil)))) pa_nil)) (blkOk_by (own := [("_law_k", 4)]) (N := N__law_what) (sc := defScope s__law_what) (by decide +kernel)) (fun _ _ _ _ _ => pg_name (i := 4) nd rfl (Or.inl rfl)) (fun _ _ _ _ _ => pts_nil) (fun _ _ _ _ _ => (pe_ix (ix_listK' (K := K) rfl) (pv 2) (pe_c G__law_take (hr.mono (by decide)) pass0 (pa_cons (pv 0) (pa_cons pe_int pa_nil))) (fun _ _ => rfl))))
  (pss_one (ps_ret (pe_c G__law_nest (hr.mono (by decide)) pass0 (pa_cons (pv 0) (pa_cons (pv 3) (pa_cons (pe_c G__law_take (hr.mono (by decide)) pass0 (pa_cons (pv 0) (pa_cons pe_int pa_nil))) pa_nil))))))))
  pss_nil)
  (pss_cons (ps_set (i := 2) nd rfl (by first | exact Or.inl rfl | exact Or.inr rfl) (pe_lst (pa_cons pe_non (pa_cons (pe_c G__law_take (hr.mono (by decide)) pass0 (pa_cons (pv 0) (pa_cons pe_int pa_nil))) (pa_cons (pe_tup (pa_cons pe_str (pa_cons (pe_tup (pa_cons pe_int (pa_cons (pe_c G__law_take (hr.mono (by decide)) pass0 (pa_cons (pv 0) (pa_cons pe_int pa_nil))) (pa_cons pe_non pa_nil)))) pa_nil))) (pa_cons pe_str (pa_cons (pe_tup (pa_cons (pe_tup pa_nil) (pa_cons (pe_tup (pa_cons pe_bl (pa_cons (pe_tup (pa_cons (pe_tup (pa_cons pe_int pa_nil)) pa_nil)) pa_nil))) pa_nil))) pa_nil)))))))
  (pss_one (ps_ret (pe_ix ix_list (pv 2) (pv 1) (fun _ _ => rfl))))))), ?_⟩
    refine ⟨_, rfl, b, 6, rfl, H0, F0, As, st, by decide, by decide, fun H1 way st1 sm1 w0 w1 => ?_⟩
    refine ⟨_, rfl, rfl, _, rfl, ?_⟩
    refine ite2 (fun c => ?_) (fun c => ?_)
    · refine ⟨_, rfl, b, 9, rfl, H0, F0, As, st1, by decide, by decide, fun H2 x st2 sm2 x0 x1 => ⟨(by show 4 ≤ sizeLine; decide), fun q nq => ?_⟩⟩
      have st3 := st2.new2 (xs := [.int x, .str "text", .non, .bl true]) nq
      have sm3 : SmT H _ := sm1.trans (sm2.trans (.of (Same.upd (o := .lst [.int x, .str "text", .non, .bl true]) nq)))
      generalize hH3 : L2.upd H2 q (HO.lst [V.int x, V.str "text", V.non, V.bl true]) = H3 at st3 sm3 ⊢
      refine ⟨_, rfl, b, 8, rfl, H0, F0, _, st3, by decide, by decide, fun H4 n st4 sm4 n0 n1 => ⟨_, _, rfl, rfl, _, rfl, by omega, by omega, fun D0 nD => ?_⟩⟩
      refine lc_all (walk_range (lo := 0)) (fun m H' => ∃ xs ds, St _ H0 F0 (boxT b :: lstT D0 xs :: lstT q [.int x, .str "text", .non, .bl true] :: As) H' ∧ SmT H H' ∧ Iss K H' xs ds ∧ (∀ d ∈ ds, DOk 0 d) ∧ ds.length = m) ⟨[], [], st4.new2 nD, sm3.trans (sm4.trans (.of (Same.upd nD))), .nil, (fun d hd => nomatch hd), rfl⟩ (fun _ _ _ _ => True.intro) ?_ ?_
      · rintro m y H5 H5' hm ⟨xs, ds, st5, sm5, ix, leaf, hlen⟩ ⟨rfl, rfl⟩
        refine ⟨_, rfl, _, rfl, b, 4, rfl, H0, F0, _, st5, by decide, by decide, fun H6 z st6 sm6 z0 z1 => ?_⟩
        obtain ⟨e, he, hv⟩ : ∃ e, DOk 0 e ∧ ∃ v, atI [V.int x, V.str "text", V.non, V.bl true] z = some v ∧ ∀ H, Is K H v e := by
          obtain ⟨j, rfl⟩ := Int.eq_ofNat_of_zero_le z0
          have hj : j < 4 := by omega
          match j, hj with
          | 0, _ => exact ⟨.int x, .int x, _, at_of (j := 0) rfl rfl, fun H => .int x⟩
          | 1, _ => exact ⟨.str "text", .str _, _, at_of (j := 1) rfl rfl, fun H => .str _⟩
          | 2, _ => exact ⟨.non, .non, _, at_of (j := 2) rfl rfl, fun H => .non⟩
          | 3, _ => exact ⟨.bl true, .bl _, _, at_of (j := 3) rfl rfl, fun H => .bl _⟩
          | n + 4, h => omega
        obtain ⟨v, hv, iv⟩ := hv
        have hm' : m < 44 := by omega
        refine ⟨q, _, z, v, rfl, rfl, SqL.of st6.lst3, hv, xs, st6.lst2, ?_, xs ++ [v], ds ++ [e], st6.put2, sm5.trans (sm6.trans st6.smPut2), ?_, ?_, ?_⟩
        · have := ix.1
          rw [sizeLine_eq]
          omega
        · exact (((ix.keep sm6).app (Iss.cons (iv _) .nil))).keep st6.smPut2
        · intro d hd
          rcases List.mem_append.mp hd with hd | hd
          · exact leaf d hd
          · rw [List.mem_singleton.mp hd]
            exact he
        · rw [List.length_append, hlen]
          rfl
      · rintro H5 ⟨xs, ds, st5, sm5, ix, leaf, hlen⟩
        refine ⟨_, rfl, _, rfl, _, rfl, b, 4, rfl, H0, F0, _, st5, by decide, by decide, fun H6 z st6 sm6 z0 z1 => ?_⟩
        obtain ⟨j, rfl⟩ := Int.eq_ofNat_of_zero_le z0
        refine ⟨b, D0, j, H0, F0, _, xs, ds, rfl, by omega, st6, ix.keep sm6, leaf, by omega, fun H7 v d st7 sm7 iv ok hz => ?_⟩
        have hp : 2 ^ j ≤ 2 ^ 3 := Nat.pow_le_pow_right (by decide) (by omega)
        exact k _ v d st7.del2.del2 (sm5.trans (sm6.trans sm7)) iv (ok.mono (by omega)) (by omega)
    · have c' : ¬ way = 5 := fun z => c (decide_eq_true (congrArg V.int z))
      refine ⟨_, rfl, b, 100, rfl, H0, F0, As, st1, by decide, by decide, fun H2 x st2 sm2 x0 x1 => ?_⟩
      refine ⟨_, rfl, b, 9, rfl, H0, F0, As, st2, by decide, by decide, fun H3 y st3 sm3 y0 y1 => ?_⟩
      refine ⟨(by show 3 ≤ sizeLine; decide), fun t1 n1 => ?_⟩
      have s1 := Same.upd (o := .tup [.int 1, .int y, .non]) n1
      have i1 : Is K _ (.ref t1) _ := (Iss.cons (Is.int (K := K) (H := H3) 1) (Iss.cons (.int y) (Iss.cons .non .nil))).made n1
      refine ⟨(by show 2 ≤ sizeLine; decide), fun t2 n2 => ?_⟩
      have s2 := Same.upd (o := .tup [.str "a", .ref t1]) n2
      have i2 : Is K _ (.ref t2) _ := (Iss.cons (Is.str (K := K) "a") (Iss.cons i1 .nil)).made n2
      refine ⟨Nat.zero_le _, fun t3 n3 => ?_⟩
      have s3 := Same.upd (o := .tup []) n3
      have i3 : Is K _ (.ref t3) _ := (Iss.nil (K := K)).made n3
      refine ⟨(by show 1 ≤ sizeLine; decide), fun t4 n4 => ?_⟩
      have s4 := Same.upd (o := .tup [.int 2]) n4
      have i4 : Is K _ (.ref t4) _ := (Iss.cons (Is.int (K := K) 2) .nil).made n4
      refine ⟨(by show 1 ≤ sizeLine; decide), fun t5 n5 => ?_⟩
      have s5 := Same.upd (o := .tup [.ref t4]) n5
      have i5 : Is K _ (.ref t5) _ := (Iss.cons i4 .nil).made n5
      refine ⟨(by show 2 ≤ sizeLine; decide), fun t6 n6 => ?_⟩
      have s6 := Same.upd (o := .tup [.bl true, .ref t5]) n6
      have i6 : Is K _ (.ref t6) _ := (Iss.cons (Is.bl (K := K) true) (Iss.cons i5 .nil)).made n6
      refine ⟨(by show 2 ≤ sizeLine; decide), fun t7 n7 => ?_⟩
      have s7 := Same.upd (o := .tup [.ref t3, .ref t6]) n7
      have i7 : Is K _ (.ref t7) _ := (Iss.cons ((((i3.same s4).same s5).same s6)) (Iss.cons i6 .nil)).made n7
      refine ⟨(by show 5 ≤ sizeLine; decide), fun q nq => ?_⟩
      have sq := Same.upd (o := .lst [.non, .int x, .ref t2, .str "text", .ref t7]) nq
      have sall := (((((((s1.trans s2).trans s3).trans s4).trans s5).trans s6).trans s7).trans sq)
      have i2' := (((((((i2.same s3).same s4).same s5).same s6).same s7).same sq))
      have i7' := i7.same sq
      obtain ⟨v, hv, d, iv, ok, hz⟩ : ∃ v, atI [V.non, V.int x, V.ref t2, V.str "text", V.ref t7] way = some v ∧ ∃ d, Is K (L2.upd _ q (.lst [.non, .int x, .ref t2, .str "text", .ref t7])) v d ∧ DOk 5 d ∧ d.size ≤ 100 := by
        obtain ⟨j, rfl⟩ := Int.eq_ofNat_of_zero_le w0
        have hj : j < 5 := by omega
        match j, hj with
        | 0, _ => exact ⟨_, at_of (j := 0) rfl rfl, _, .non, .non, by decide⟩
        | 1, _ => exact ⟨_, at_of (j := 1) rfl rfl, _, .int x, .int x, by show 1 ≤ 100; decide⟩
        | 2, _ => exact ⟨_, at_of (j := 2) rfl rfl, _, i2', .tup (by show 2 ≤ 10000; decide) fun d hd => (by
            simp only [List.mem_cons, List.not_mem_nil, or_false] at hd
            rcases hd with rfl | rfl
            · exact .str _
            · exact .tup (by show 3 ≤ 10000; decide) fun d hd => (by
                simp only [List.mem_cons, List.not_mem_nil, or_false] at hd
                rcases hd with rfl | rfl | rfl
                · exact .int _
                · exact .int _
                · exact .non)), by show 1 + (1 + ((1 + (1 + (1 + (1 + 0)))) + 0)) ≤ 100; decide⟩
        | 3, _ => exact ⟨_, at_of (j := 3) rfl rfl, _, .str _, .str _, by show 1 ≤ 100; decide⟩
        | 4, _ => exact ⟨_, at_of (j := 4) rfl rfl, _, i7', .tup (by show 2 ≤ 10000; decide) fun d hd => (by
            simp only [List.mem_cons, List.not_mem_nil, or_false] at hd
            rcases hd with rfl | rfl
            · exact .tup (Nat.zero_le _) fun d hd => nomatch hd
            · exact .tup (by show 2 ≤ 10000; decide) fun d hd => (by
                simp only [List.mem_cons, List.not_mem_nil, or_false] at hd
                rcases hd with rfl | rfl
                · exact .bl _
                · exact .tup (by show 1 ≤ 10000; decide) fun d hd => (by
                    rw [List.mem_singleton.mp hd]
                    exact .tup (by show 1 ≤ 10000; decide) fun d hd => (by
                      rw [List.mem_singleton.mp hd]
                      exact .int _)))), by decide⟩
        | n + 5, h => omega
      refine ⟨_, rfl, _, rfl, q, _, way, v, rfl, rfl, SqL.of upd_same, hv, ?_⟩
      exact k _ v d (st3.same sall) (sm1.trans (sm2.trans (sm3.trans (.of sall)))) iv ok hz
abbrev s__law_weight : Stmt := top 30
abbrev N__law_weight : List Str := ["_law_what_here", "_law_one"]
abbrev P__law_weight : List Str := ["_law_what_here"]
theorem sc__law_weight : FnScope N__law_weight P__law_weight (defScope s__law_weight) := ⟨rfl, rfl, rfl, by decide +kernel, rfl, by decide +kernel, by decide +kernel⟩
def spWgh (K : PySem.W.Frag) (n : Nat) : Sp := fun vs H Q _ => ∃ (v : V) (d : Dat) (m : Nat), vs = [v] ∧ m < n ∧ Is K H v d ∧ DOk m d ∧ ∀ H', Same H H' → Q (.int (d.weight : Nat)) H'
theorem weights_sum : ∀ ds : List Dat, ((ds.map fun d => (d.weight : Int)).sum) = ((weights ds : Nat) : Int)
  | [] => rfl
  | d :: ds => by
    rw [List.map_cons, List.sum_cons, weights_sum ds]
    show _ = ((d.weight + weights ds : Nat) : Int)
    omega
theorem ok_wghS {n : Nat} (T : Txt mg) (T4 : Txt4 mg) (D : Df K mg "_law_weight" s__law_weight P__law_weight) (G_weigh : Fn P w K mg base CX0 (1 + n) "_law_weight" P__law_weight (spWgh K n)) : Fn P w K mg base CX0 (1 + n + 1) "_law_weight" P__law_weight (spWgh K (n + 1)) := by
  refine D.ok sc__law_weight (fun vs H Q E h => ?_) (fun f cdv A outer s H vs Q E hrn h => ?_)
  · obtain ⟨v, d, m, rfl, _⟩ := h
    rfl
  · obtain ⟨v, d, m, rfl, hm, hv, ok, k⟩ := h
    have nd := sc__law_weight.nd
    refine ⟨_, (pss_cons (ps_if (pt_not (pt_val (pe_callB call_isi (by rfl) T.b_isinstance (by decide +kernel) (pa_cons (pv 0) (pa_cons (pe_bltn (v := .ty "tuple") (by rfl) T.b_tuple (by decide +kernel) rfl) pa_nil)))))
  (pss_one (ps_ret pe_int))
  pss_nil)
  (pss_one (ps_ret (pe_callB (cr_sum rfl) (by rfl) T4.b_sum (by decide +kernel) (pa_cons (pe_lc (own := [("_law_one", 1)]) (g := gName 1) (by rfl) nd  (pi_tup (pv 0)) (blkOk_by (own := [("_law_one", 1)]) (N := N__law_weight) (sc := defScope s__law_weight) (by decide +kernel)) (fun _ _ _ _ _ => pg_name (i := 1) nd rfl (Or.inl rfl)) (fun _ _ _ _ _ => pts_nil) (fun _ _ _ _ _ => (pe_c G_weigh hrn pass0 (pa_cons (pv 1) pa_nil)))) pa_nil))))), ?_⟩
    cases ok with
    | non =>
      cases hv
      refine ⟨_, rfl, _, .ty "tuple", .type "NoneType", .type "tuple", false, rfl, .ty _, .base .non, kit_ty (by decide +kernel), _, rfl, ?_⟩
      exact ite2 (fun _ => k _ (Same.refl _)) (fun c => absurd rfl c)
    | bl t =>
      cases hv
      refine ⟨_, rfl, _, .ty "tuple", .type "bool", .type "tuple", false, rfl, .ty _, .base (.bl _), kit_ty (by decide +kernel), _, rfl, ?_⟩
      exact ite2 (fun _ => k _ (Same.refl _)) (fun c => absurd rfl c)
    | int t =>
      cases hv
      refine ⟨_, rfl, _, .ty "tuple", .type "int", .type "tuple", false, rfl, .ty _, .base (.int _), kit_ty (by decide +kernel), _, rfl, ?_⟩
      exact ite2 (fun _ => k _ (Same.refl _)) (fun c => absurd rfl c)
    | str t =>
      cases hv
      refine ⟨_, rfl, _, .ty "tuple", .type "str", .type "tuple", false, rfl, .ty _, .base (.str _), kit_ty (by decide +kernel), _, rfl, ?_⟩
      exact ite2 (fun _ => k _ (Same.refl _)) (fun c => absurd rfl c)
    | @tup m ds hl ok =>
      obtain ⟨a, xs, rfl, ha, ix⟩ := is_tup hv
      refine ⟨_, rfl, _, .ty "tuple", .type "tuple", .type "tuple", true, rfl, .ty _, tyX_seqT ha, kit_ty (by decide +kernel), _, rfl, ?_⟩
      refine ite2 (fun c => Bool.noConfusion (show false = true from c)) (fun _ => ?_)
      refine ⟨_, rfl, a, rfl, ⟨_, ha⟩, fun D0 nD => ?_⟩
      refine lc_all (walk_tup (xs := xs)) (fun j H' => Same H H' ∧ H' D0 = some (.lst (((ds.take j).map fun d => (d.weight : Int)).map V.int))) ⟨Same.upd nD, upd_same⟩ (fun _ _ _ h => h.1.seqT ha) ?_ ?_
      · rintro j x H2 H2' hj ⟨s2, hD⟩ ⟨rfl, ex⟩
        obtain ⟨d, hd, id_⟩ := ix.get ex
        refine ⟨_, rfl, x, d, m, rfl, by omega, id_.same s2, ok d (List.mem_of_getElem? hd), fun H3 s3 => ⟨_, s3 _ _ hD, ?_, Same.put (s2.trans s3) nD, ?_⟩⟩
        · rw [List.length_map, List.length_map, List.length_take, sizeLine_eq]
          omega
        · rw [upd_same, take_more hd, List.map_append, List.map_append]
          rfl
      · rintro H2 ⟨s2, hD⟩
        rw [ix.1, List.take_length] at hD
        refine ⟨D0, _, rfl, SqL.of hD, ?_⟩
        rw [weights_sum]
        exact k _ s2
theorem ok_wgh (T : Txt mg) (T4 : Txt4 mg) (D : Df K mg "_law_weight" s__law_weight P__law_weight) : ∀ n, Fn P w K mg base CX0 (1 + n) "_law_weight" P__law_weight (spWgh K n)
  | 0 => by
    obtain ⟨f, fd, F, hm, hb⟩ := D.ex
    refine ⟨f, fd, ⟨fun vs H Q E h => ?_, fun A outer s H args us vs Q E _ _ _ _ h => ?_⟩, hm, F.kp, hb⟩
    · obtain ⟨x, r, m, _, h, _⟩ := h
      exact absurd h (Nat.not_lt_zero _)
    · obtain ⟨x, r, m, _, h, _⟩ := h
      exact absurd h (Nat.not_lt_zero _)
  | n + 1 => ok_wghS T T4 D (ok_wgh T T4 D n)
end
end K3

set_option Elab.async false
set_option linter.all false
set_option maxRecDepth 100000
set_option maxHeartbeats 4000000
/-! K13C: the law's own disk -/
namespace K3
open PySem PySem.Spec PyProof.Rows L2
structure Own where
  settled : List Dat
  pending : List (Nat × Dat)
  left : Option Int
  picks : List Bool
  fallen : Bool
def ownNew : Own := ⟨List.replicate 600 .non, [], none, [], false⟩
def Own.fall (O : Own) (ps : List Bool) : Own := { O with settled := (O.pending.zip (ps ++ List.replicate 400 false)).foldl keep1 O.settled, pending := [], fallen := true }
def Own.count (O : Own) : Own × Bool :=
  if O.fallen = true then (O, false) else
    match O.left with
    | none => (O, true)
    | some i => if i = 0 then (O.fall O.picks, false) else ({ O with left := some (i - 1) }, true)
structure OwnOk (O : Own) : Prop where
  ls : O.settled.length = 600
  lw : ∀ q ∈ O.pending, q.1 < 600
  few : O.pending.length < 400
  lp : O.picks.length ≤ 1000
  lft : ∀ i, O.left = some i → 0 ≤ i ∧ i < 1000
theorem keeps_no : ∀ (l : List (Nat × Dat)) (ss : List Dat) (n : Nat), (l.zip (List.replicate n false)).foldl keep1 ss = ss
  | [], ss, n => rfl
  | q :: l, ss, 0 => rfl
  | q :: l, ss, n + 1 => by
    rw [List.replicate_succ, List.zip_cons_cons, List.foldl_cons]
    show (l.zip (List.replicate n false)).foldl keep1 (keep1 ss (q, false)) = ss
    have : keep1 ss (q, false) = ss := rfl
    rw [this, keeps_no l ss n]
/-- picks that lack are no picks -/
theorem keeps_more : ∀ (l : List (Nat × Dat)) (ps : List Bool) (ss : List Dat) (n : Nat), (l.zip (ps ++ List.replicate n false)).foldl keep1 ss = (l.zip ps).foldl keep1 ss
  | l, [], ss, n => by
    rw [List.nil_append, keeps_no, List.zip_nil_right]
    rfl
  | [], p :: ps, ss, n => rfl
  | q :: l, p :: ps, ss, n => by
    rw [List.cons_append, List.zip_cons_cons, List.zip_cons_cons, List.foldl_cons, List.foldl_cons, keeps_more l ps _ n]
theorem OwnOk.fall {O : Own} (ok : OwnOk O) (ps : List Bool) : OwnOk (O.fall ps) := ⟨keeps_len.trans ok.ls, (fun q hq => nomatch hq), (by show 0 < 400; decide), ok.lp, ok.lft⟩
theorem OwnOk.count {O : Own} (ok : OwnOk O) : OwnOk O.count.1 := by
  unfold Own.count
  split
  · exact ok
  · split
    · exact ok
    · rename_i i e
      split
      · exact ok.fall _
      · have := ok.lft i e
        exact ⟨ok.ls, ok.lw, ok.few, ok.lp, fun j hj => by
          cases hj
          omega⟩
theorem count_pending {O : Own} : O.count.1.pending.length ≤ O.pending.length := by
  unfold Own.count
  split
  · exact Nat.le_refl _
  · split
    · exact Nat.le_refl _
    · split
      · exact Nat.zero_le _
      · exact Nat.le_refl _
/-- the disk is as the law's own one -/
structure RelD (D : Dsk) (O : Own) : Prop where
  st : D.settled = O.settled
  run : D.running = !O.fallen
  up : O.fallen = false → D.deeds = O.left ∧ D.picks = O.picks ∧ D.waiting = O.pending ∧ D.newest = O.pending.foldl (fun ss q => ss.set q.1 q.2) O.settled
  dn : O.fallen = true → O.pending = []
theorem stop_fall {D : Dsk} {O : Own} (r : RelD D O) (f : O.fallen = false) (ps : List Bool) : (D.stop ps).settled = (O.fall ps).settled ∧ (D.stop ps).running = false := by
  have hr : D.running = true := by rw [r.run, f]; rfl
  unfold Dsk.stop Own.fall
  rw [if_pos hr]
  refine ⟨?_, rfl⟩
  show (D.waiting.zip ps).foldl keep1 D.settled = (O.pending.zip (ps ++ List.replicate 400 false)).foldl keep1 O.settled
  rw [keeps_more, (r.up f).2.2.1, r.st]
theorem RelD.fall {D : Dsk} {O : Own} (r : RelD D O) (ps : List Bool) : RelD (D.stop ps) (O.fall ps) := by
  cases f : O.fallen with
  | false =>
    obtain ⟨a, b⟩ := stop_fall r f ps
    exact ⟨a, b, (fun z => by cases z), fun _ => rfl⟩
  | true =>
    have hr : D.running = false := by rw [r.run, f]; rfl
    have e : D.stop ps = D := by
      unfold Dsk.stop
      rw [if_neg (by rw [hr]; decide)]
    rw [e]
    refine ⟨?_, hr, (fun z => by cases z), fun _ => rfl⟩
    show D.settled = (O.pending.zip (ps ++ List.replicate 400 false)).foldl keep1 O.settled
    rw [r.dn f, r.st]
    rfl
theorem RelD.count {D : Dsk} {O : Own} (r : RelD D O) (ok : OwnOk O) : RelD D.spend.1 O.count.1 ∧ D.spend.2 = O.count.2 := by
  cases f : O.fallen with
  | true =>
    have hr : D.running = false := by rw [r.run, f]; rfl
    have e1 : D.spend = (D, false) := by
      unfold Dsk.spend
      rw [if_neg (by rw [hr]; decide)]
    have e2 : O.count = (O, false) := by
      unfold Own.count
      rw [if_pos f]
    rw [e1, e2]
    exact ⟨r, rfl⟩
  | false =>
    have hr : D.running = true := by rw [r.run, f]; rfl
    obtain ⟨u1, u2, u3, u4⟩ := r.up f
    cases hl : O.left with
    | none =>
      rw [hl] at u1
      have e1 : D.spend = (D, true) := by
        unfold Dsk.spend
        rw [if_pos hr, u1]
      have e2 : O.count = (O, true) := by
        unfold Own.count
        rw [if_neg (by rw [f]; decide), hl]
      rw [e1, e2]
      exact ⟨r, rfl⟩
    | some i =>
      have hi := ok.lft i hl
      rw [hl] at u1
      by_cases c : i = 0
      · have e1 : D.spend = (D.stop D.picks, false) := by
          unfold Dsk.spend
          rw [if_pos hr, u1]
          show (if i ≤ 0 then _ else _) = _
          rw [if_pos (by omega)]
        have e2 : O.count = (O.fall O.picks, false) := by
          unfold Own.count
          rw [if_neg (by rw [f]; decide), hl]
          show (if i = 0 then _ else _) = _
          rw [if_pos c]
        rw [e1, e2, u2]
        exact ⟨r.fall _, rfl⟩
      · have e1 : D.spend = ({ D with deeds := some (i - 1) }, true) := by
          unfold Dsk.spend
          rw [if_pos hr, u1]
          show (if i ≤ 0 then _ else _) = _
          rw [if_neg (by omega)]
        have e2 : O.count = ({ O with left := some (i - 1) }, true) := by
          unfold Own.count
          rw [if_neg (by rw [f]; decide), hl]
          show (if i = 0 then _ else _) = _
          rw [if_neg c]
        rw [e1, e2]
        exact ⟨⟨r.st, r.run, fun _ => ⟨rfl, u2, u3, u4⟩, r.dn⟩, rfl⟩
theorem none_ne' {H : Hp} {a b : Addr} {kvs : List (Key × V)} {xs : List V} (h : H b = some (.dK kvs)) (g : H a = some (.lst xs)) : a ≠ b := fun e => by
  rw [e, h] at g
  cases g
def okvs (s q l p f : V) : List (Key × V) := [(.inr "settled", s), (.inr "pending", q), (.inr "left", l), (.inr "picks", p), (.inr "fallen", f)]
section
variable {H : Hp} {o : Addr} {s q l p f y : V}
theorem og_s (h : H o = some (.dK (okvs s q l p f))) : DGet H o (.str "settled") (some s) := by
  have g := DGet.k (k := (.inr "settled" : Key)) h
  rw [show valV (okvs s q l p f) (.inr "settled" : Key) = some s from by kernel_rfl] at g
  exact g
theorem og_q (h : H o = some (.dK (okvs s q l p f))) : DGet H o (.str "pending") (some q) := by
  have g := DGet.k (k := (.inr "pending" : Key)) h
  rw [show valV (okvs s q l p f) (.inr "pending" : Key) = some q from by kernel_rfl] at g
  exact g
theorem og_l (h : H o = some (.dK (okvs s q l p f))) : DGet H o (.str "left") (some l) := by
  have g := DGet.k (k := (.inr "left" : Key)) h
  rw [show valV (okvs s q l p f) (.inr "left" : Key) = some l from by kernel_rfl] at g
  exact g
theorem og_p (h : H o = some (.dK (okvs s q l p f))) : DGet H o (.str "picks") (some p) := by
  have g := DGet.k (k := (.inr "picks" : Key)) h
  rw [show valV (okvs s q l p f) (.inr "picks" : Key) = some p from by kernel_rfl] at g
  exact g
theorem og_f (h : H o = some (.dK (okvs s q l p f))) : DGet H o (.str "fallen") (some f) := by
  have g := DGet.k (k := (.inr "fallen" : Key)) h
  rw [show valV (okvs s q l p f) (.inr "fallen" : Key) = some f from by kernel_rfl] at g
  exact g
theorem ok_few : (okvs s q l p f).length < sizeLine := by
  rw [sizeLine_eq]
  show 5 < _
  decide
theorem op_q (h : H o = some (.dK (okvs s q l p f))) : DPut H o (.str "pending") y (L2.upd H o (.dK (okvs s y l p f))) := by
  have g := DPut.k (k := (.inr "pending" : Key)) (v := y) h ok_few
  rw [show putK (okvs s q l p f) (.inr "pending" : Key) y = okvs s y l p f from by kernel_rfl] at g
  exact g
theorem op_l (h : H o = some (.dK (okvs s q l p f))) : DPut H o (.str "left") y (L2.upd H o (.dK (okvs s q y p f))) := by
  have g := DPut.k (k := (.inr "left" : Key)) (v := y) h ok_few
  rw [show putK (okvs s q l p f) (.inr "left" : Key) y = okvs s q y p f from by kernel_rfl] at g
  exact g
theorem op_p (h : H o = some (.dK (okvs s q l p f))) : DPut H o (.str "picks") y (L2.upd H o (.dK (okvs s q l y f))) := by
  have g := DPut.k (k := (.inr "picks" : Key)) (v := y) h ok_few
  rw [show putK (okvs s q l p f) (.inr "picks" : Key) y = okvs s q l y f from by kernel_rfl] at g
  exact g
theorem op_f (h : H o = some (.dK (okvs s q l p f))) : DPut H o (.str "fallen") y (L2.upd H o (.dK (okvs s q l p y))) := by
  have g := DPut.k (k := (.inr "fallen" : Key)) (v := y) h ok_few
  rw [show putK (okvs s q l p f) (.inr "fallen" : Key) y = okvs s q l p y from by kernel_rfl] at g
  exact g
end
structure OwnA (K : PySem.W.Frag) (H : Hp) (o s q p : Addr) (O : Own) : Prop where
  dc : H o = some (.dK (okvs (.ref s) (.ref q) (deedV O.left) (.ref p) (.bl O.fallen)))
  hs : ∃ xs, H s = some (.lst xs) ∧ Iss K H xs O.settled
  hq : ∃ xs, H q = some (.lst xs) ∧ Iss K H xs (O.pending.map waitD)
  hp : H p = some (.lst (O.picks.map V.bl))
  ap : s ≠ q ∧ s ≠ p ∧ q ≠ p
theorem lst_dK {H : Hp} {a b : Addr} {xs : List V} {kvs : List (Key × V)} (h : H a = some (.lst xs)) (g : H b = some (.dK kvs)) : a ≠ b := fun e => by
  rw [e, g] at h
  cases h
theorem OwnA.apart {K : PySem.W.Frag} {H : Hp} {o s q p : Addr} {O : Own} (h : OwnA K H o s q p O) : s ≠ o ∧ q ≠ o ∧ p ≠ o := by
  obtain ⟨h1, ⟨xs, h2, _⟩, ⟨ys, h3, _⟩, h4, _⟩ := h
  exact ⟨lst_dK h2 h1, lst_dK h3 h1, lst_dK h4 h1⟩
def ownF (o s q p : Addr) : Foot := fun r => r = o ∨ r = s ∨ r = q ∨ r = p
def ownT (K : PySem.W.Frag) (o : Addr) (O : Own) : Thing := ⟨fun H F => ∃ s q p, OwnA K H o s q p O ∧ ∀ r, F r ↔ ownF o s q p r,
  fun ⟨s, q, p, ⟨h1, ⟨xs, h2, _⟩, ⟨ys, h3, _⟩, h4, _⟩, e⟩ r f => by
    rcases (e r).mp f with rfl | rfl | rfl | rfl
    · exact ⟨_, h1, .dK⟩
    · exact ⟨_, h2, .lst⟩
    · exact ⟨_, h3, .lst⟩
    · exact ⟨_, h4, .lst⟩,
  fun ⟨s, q, p, ⟨h1, ⟨xs, h2, i2⟩, ⟨ys, h3, i3⟩, h4, ap⟩, e⟩ k sm =>
    have k' : ∀ r u, ownF o s q p r → _ → _ := fun r u f => k r u ((e r).mpr f)
    ⟨s, q, p, ⟨k' _ _ (.inl rfl) h1, ⟨xs, k' _ _ (.inr (.inl rfl)) h2, i2.keep sm⟩, ⟨ys, k' _ _ (.inr (.inr (.inl rfl))) h3, i3.keep sm⟩, k' _ _ (.inr (.inr (.inr rfl))) h4, ap⟩, e⟩⟩
section
variable {T : List (Addr × Str)} {H0 H H' : Hp} {F0 : Foot} {As : List Thing} {K : PySem.W.Frag} {o : Addr} {O : Own}
theorem St.own (h : St T H0 F0 (ownT K o O :: As) H) : ∃ s q p, OwnA K H o s q p O ∧ ∀ {H' O' s' q' p'}, OwnA K H' o s' q' p' O' → (∀ r, ownF o s' q' p' r → ownF o s q p r ∨ H r = none) → (∀ r u, ¬ ownF o s q p r → H r = some u → H' r = some u) → St T H0 F0 (ownT K o O' :: As) H' ∧ SmT H H' := by
  obtain ⟨F1, ⟨s, q, p, hA, e⟩, m⟩ := h.get
  refine ⟨s, q, p, hA, fun {H' O' s' q' p'} hA' sub out => h.turn fun F2 ⟨s2, q2, p2, hA2, e2⟩ m2 => ?_⟩
  have i2 := hA2.dc
  rw [hA.dc] at i2
  have i2 := Option.some.inj i2
  unfold okvs at i2
  injection i2 with i3
  simp only [List.cons.injEq, Prod.mk.injEq, V.ref.injEq, true_and, and_true] at i3
  obtain ⟨rfl, rfl, _, rfl, _⟩ := i3
  refine ⟨ownF o s' q' p', ⟨s', q', p', hA', fun r => Iff.rfl⟩, .of m2 fun r u nr e0 => out r u (fun f => nr ((e2 r).mpr f)) e0, fun r f => ?_⟩
  rcases sub r f with z | z
  · exact .inl ((e2 r).mpr z)
  · exact .inr (MutAt.no z)
end
section
variable {P : Program} {w : World} {K : PySem.W.Frag} {mg : Str → Option Value} {base : Heap}
abbrev s__law_made : Stmt := top 31
abbrev N__law_made : List Str := []
abbrev P__law_made : List Str := []
theorem sc__law_made : FnScope N__law_made P__law_made (defScope s__law_made) := ⟨rfl, rfl, rfl, by decide +kernel, rfl, by decide +kernel, by decide +kernel⟩
def spMade (K : PySem.W.Frag) (T : List (Addr × Str)) : Sp := fun vs H Q _ => ∃ (H0 : Hp) (F0 : Foot) (As : List Thing), vs = [] ∧ St T H0 F0 As H ∧ ∀ H' o, St T H0 F0 (ownT K o ownNew :: As) H' → Same H H' → Q (.ref o) H'
theorem ok_made {T : List (Addr × Str)} (D : Df K mg "_law_made" s__law_made P__law_made) : Fn P w K mg base CX0 1 "_law_made" P__law_made (spMade K T) := by
  refine D.ok sc__law_made (fun vs H Q E h => ?_) (fun f cdv A outer s H vs Q E hr h => ?_)
  · obtain ⟨H0, F0, As, rfl, _⟩ := h
    rfl
  · obtain ⟨H0, F0, As, rfl, st, k⟩ := h
    have nd := sc__law_made.nd
    refine ⟨_, (pss_one (ps_ret (pe_disp (pps_cons pe_str (pe_op op_rep (pe_lst (pa_cons pe_non pa_nil)) pe_int) (pps_cons pe_str (pe_lst pa_nil) (pps_cons pe_str pe_non (pps_cons pe_str (pe_lst pa_nil) (pps_cons pe_str pe_bl pps_nil))))) (by rfl) (by rfl) (fun z => by cases z) (by decide)))), ?_⟩
    intro o no
    refine ⟨(by show 1 ≤ sizeLine; decide), fun l nl => ?_⟩
    refine ⟨_, _, _, rfl, rfl, upd_same, by decide, by decide, by decide, fun s ns => ?_⟩
    refine ⟨Nat.zero_le _, fun q nq => ?_⟩
    refine ⟨Nat.zero_le _, fun p np => ?_⟩
    have s1 := Same.upd (o := .dK []) no
    have s2 := Same.upd (o := .lst [.non]) nl
    have s3 := Same.upd (o := .lst (List.replicate (600 : Int).toNat [V.non]).flatten) ns
    have s4 := Same.upd (o := .lst []) nq
    have s5 := Same.upd (o := .lst []) np
    have eo := s5 _ _ (s4 _ _ (s3 _ _ (s2 _ _ (upd_same (H := H) (a := o) (o := .dK [])))))
    have es := s5 _ _ (s4 _ _ (upd_same (a := s) (o := .lst (List.replicate (600 : Int).toNat [V.non]).flatten)))
    have eq := s5 _ _ (upd_same (a := q) (o := .lst []))
    have so : s ≠ o := none_ne' eo es
    have qo : q ≠ o := none_ne' eo eq
    have po : p ≠ o := none_ne' eo upd_same
    have sq : s ≠ q := none_ne (upd_same) nq
    have sp : s ≠ p := none_ne (s4 _ _ upd_same) np
    have qp : q ≠ p := none_ne upd_same np
    refine ⟨eo, [(.inr "settled", .ref s), (.inr "pending", .ref q), (.inr "left", .non), (.inr "picks", .ref p), (.inr "fallen", .bl false)], rfl, (by show 5 ≤ 15; decide), ?_⟩
    rw [show mergeK [] [((.inr "settled" : Key), V.ref s), (.inr "pending", .ref q), (.inr "left", .non), (.inr "picks", .ref p), (.inr "fallen", .bl false)] = okvs (.ref s) (.ref q) .non (.ref p) (.bl false) from by kernel_rfl]
    have sall : Same H (L2.upd (L2.upd (L2.upd (L2.upd (L2.upd (L2.upd H o (.dK [])) l (.lst [.non])) s (.lst (List.replicate (600 : Int).toNat [V.non]).flatten)) q (.lst [])) p (.lst [])) o (.dK (okvs (.ref s) (.ref q) .non (.ref p) (.bl false)))) := fun b u e => (upd_ne (none_ne e no)).trans (s5 _ _ (s4 _ _ (s3 _ _ (s2 _ _ (s1 _ _ e)))))
    have i600 : ∀ H', Iss K H' (List.replicate (600 : Int).toNat [V.non]).flatten (List.replicate 600 .non) := fun H' => by
      rw [rep_none]
      exact iss_nons 600
    have fr : ∀ {c}, H c = none ∨ ∃ u, H c = some u := fun {c} => by
      cases H c with
      | none => exact .inl rfl
      | some u => exact .inr ⟨u, rfl⟩
    refine k _ o (st.add sall ⟨ownF o s q p, ⟨s, q, p, ⟨upd_same, ⟨_, (upd_ne so).trans es, i600 _⟩, ⟨[], (upd_ne qo).trans eq, .nil⟩, (upd_ne po).trans upd_same, ⟨sq, sp, qp⟩⟩, fun r => Iff.rfl⟩, fun r f => ?_⟩) sall
    rcases f with rfl | rfl | rfl | rfl
    · exact no
    · rcases fr (c := r) with z | ⟨u, z⟩
      · exact z
      · rw [s2 _ _ (s1 _ _ z)] at ns
        cases ns
    · rcases fr (c := r) with z | ⟨u, z⟩
      · exact z
      · rw [s3 _ _ (s2 _ _ (s1 _ _ z))] at nq
        cases nq
    · rcases fr (c := r) with z | ⟨u, z⟩
      · exact z
      · rw [s4 _ _ (s3 _ _ (s2 _ _ (s1 _ _ z)))] at np
        cases np
end
end K3

set_option Elab.async false
set_option linter.all false
set_option maxRecDepth 100000
set_option maxHeartbeats 4000000
/-! K13D: the law's own disk falls, counts -/
namespace K3
open PySem PySem.Spec PyProof.Rows L2
theorem SmT.but {H H' : Hp} {s : Addr} {xs : List V} (h : H s = some (.lst xs)) (o : ∀ r x, r ≠ s → H r = some x → H' r = some x) : SmT H H' := fun b u e k => by
  refine o b u (fun z => ?_) e
  rw [z, h] at e
  have e := Option.some.inj e
  rcases k with ⟨xs, k⟩ | ⟨ob, xs, k⟩ <;> rw [k] at e <;> cases e
section
variable {P : Program} {w : World} {K : PySem.W.Frag} {mg : Str → Option Value} {base : Heap}
theorem sub_q {H : Hp} {o s q q' p : Addr} (fr : H q' = none) : ∀ r, ownF o s q' p r → ownF o s q p r ∨ H r = none := fun r f => by
  rcases f with f | f | f | f
  · exact .inl (.inl f)
  · exact .inl (.inr (.inl f))
  · exact .inr (f ▸ fr)
  · exact .inl (.inr (.inr (.inr f)))
theorem rep_false (n : Nat) : (List.replicate n [V.bl false]).flatten = (List.replicate n false).map V.bl := by
  induction n with
  | zero => rfl
  | succ n ih =>
    rw [List.replicate_succ, List.flatten_cons, ih, List.replicate_succ]
    rfl
abbrev s__law_fall : Stmt := top 32
abbrev N__law_fall : List Str := ["_law_own", "_law_picks", "_law_k", "_law_block", "_law_what_here"]
abbrev P__law_fall : List Str := ["_law_own", "_law_picks"]
theorem sc__law_fall : FnScope N__law_fall P__law_fall (defScope s__law_fall) := ⟨rfl, rfl, rfl, by decide +kernel, rfl, by decide +kernel, by decide +kernel⟩
def spFallA (K : PySem.W.Frag) : Sp := fun vs H Q _ => ∃ (o s q p pp : Addr) (O : Own) (ps : List Bool), vs = [.ref o, .ref pp] ∧ OwnA K H o s q p O ∧ OwnOk O ∧ H pp = some (.lst (ps.map V.bl)) ∧ pp ≠ s ∧ ps.length ≤ 1000 ∧
  ∀ H' q', OwnA K H' o s q' p (O.fall ps) → H q' = none → (∀ r x, r ≠ o → r ≠ s → H r = some x → H' r = some x) → Q .non H'
theorem ok_fallA (T : Txt mg) (D : Df K mg "_law_fall" s__law_fall P__law_fall) : Fn P w K mg base CX0 1 "_law_fall" P__law_fall (spFallA K) := by
  refine D.ok sc__law_fall (fun vs H Q E h => ?_) (fun f cdv A outer s H vs Q E hr h => ?_)
  · obtain ⟨o, s, q, p, pp, O, ps, rfl, _⟩ := h
    rfl
  · obtain ⟨o, s, q, p, pp, O, ps, rfl, hA, ok, hpp, nps, hlp, k⟩ := h
    have nd := sc__law_fall.nd
    refine ⟨_, (pss_cons (ps_for PassesOwn.never rfl (pi_range1 (by rfl) T.b_range (pa_cons (pe_callB call_len_seq (by rfl) T.b_len (by decide +kernel) (pa_cons (pe_dget (hu_of hr) (pv 0) pe_str (fun _ _ => rfl)) pa_nil)) pa_nil)) (pg_name (i := 2) nd rfl (by first | exact Or.inl rfl | exact Or.inr rfl))
  (pss_cons (ps_asg (pe_ix ix_list (pe_dget (hu_of hr) (pv 0) pe_str (fun _ _ => rfl)) (pv 2) (fun _ _ => rfl)) (pg_tupK (K := K) (n := 2) rfl (by rfl) (pgs_cons (pg_name (i := 3) nd rfl (by first | exact Or.inl rfl | exact Or.inr rfl)) (pgs_cons (pg_name (i := 4) nd rfl (by first | exact Or.inl rfl | exact Or.inr rfl)) pgs_nil))))
  (pss_one (ps_if (pt_val (pe_ix ix_list (pe_op op_cat (pe_callTy call_list_of (by rfl) T.b_list (by decide +kernel) (pa_cons (pv 1) pa_nil)) (pe_op op_rep (pe_lst (pa_cons pe_bl pa_nil)) pe_int)) (pv 2) (fun _ _ => rfl)))
  (pss_one (ps_asg (pv 4) (pg_sub (pe_dget (hu_of hr) (pv 0) pe_str (fun _ _ => rfl)) (pv 3) set_list)))
  pss_nil))))
  (pss_cons (ps_dput (hu_of hr) (pv 0) pe_str (pe_lst pa_nil) rfl)
  (pss_one (ps_dput (hu_of hr) (pv 0) pe_str pe_bl rfl)))), ?_⟩
    obtain ⟨hd, ⟨xs, hs, is⟩, ⟨ys, hq, iq⟩, hp, ap⟩ := id hA
    obtain ⟨sq, sp, qp⟩ := id ap
    obtain ⟨so, qo, po⟩ := hA.apart
    have lq := iq.1
    rw [List.length_map] at lq
    have few := ok.few
    have ppo : pp ≠ o := lst_dK hpp hd
    refine ⟨_, rfl, o, _, rfl, og_q hd, q, _, rfl, .inl (SqL.of hq), ?_⟩
    refine ⟨_, rfl, by omega, by omega, for_it (walk_range (lo := 0)) (fun i σ H' => (∃ v2 v3 v4, σ = [some (.ref o), some (.ref pp), v2, v3, v4]) ∧ ∃ us, H' s = some (.lst us) ∧ Iss K H' us (((O.pending.zip (ps ++ List.replicate 400 false)).take i).foldl keep1 O.settled) ∧ (∀ r x, r ≠ s → H r = some x → H' r = some x)) ⟨⟨none, none, none, rfl⟩, xs, hs, is, fun r x _ e => e⟩ (fun _ _ _ _ _ => True.intro) ?_ ?_⟩
    · rintro i x σ H1 H1' hi ⟨⟨v2, v3, v4, rfl⟩, us, hus, ius, out⟩ ⟨rfl, rfl⟩
      have hi : i < ys.length := by
        rw [Int.toNat_natCast] at hi
        exact hi
      have e0 : (0 : Int) + (i : Int) = (i : Int) := by omega
      have sm1 := SmT.but hs out
      obtain ⟨⟨blk, what⟩, hw⟩ : ∃ z, O.pending[i]? = some z := ⟨_, List.getElem?_eq_getElem (by omega)⟩
      obtain ⟨y, hy, iy⟩ := (iq.keep sm1).to (show (O.pending.map waitD)[i]? = some (waitD (blk, what)) by rw [List.getElem?_map, hw]; rfl)
      obtain ⟨t, zz, rfl, ht, izz⟩ := is_tup iy
      obtain ⟨vb, vw, rfl⟩ : ∃ vb vw, zz = [vb, vw] := by
        have := izz.1
        match zz, this with
        | [vb, vw], _ => exact ⟨vb, vw, rfl⟩
      obtain ⟨hvb, izz2⟩ := izz.uncons
      obtain ⟨hvw, _⟩ := izz2.uncons
      cases hvb
      have hd1 := out _ _ so.symm hd
      have hq1 := out _ _ sq.symm hq
      have hpp1 := out _ _ nps hpp
      refine ⟨_, rfl, o, _, rfl, og_q hd1, _, rfl, q, _, _, .ref t, rfl, rfl, SqL.of hq1, at_of (j := i) e0 hy, t, _, rfl, ht, rfl, _, _, rfl, _, _, rfl, rfl, ?_⟩
      refine ⟨_, rfl, pp, _, rfl, .inl (SqL.of hpp1), fun l1 n1 => ?_⟩
      have s1 := Same.upd (o := .lst (ps.map V.bl)) n1
      refine ⟨(by show 1 ≤ sizeLine; decide), fun l2 n2 => ?_⟩
      have s2 := Same.upd (o := .lst [.bl false]) n2
      refine ⟨_, _, _, rfl, rfl, upd_same, by decide, by decide, by decide, fun l3 n3 => ?_⟩
      have s3 := Same.upd (o := .lst (List.replicate (400 : Int).toNat [V.bl false]).flatten) n3
      refine ⟨l1, l3, _, _, rfl, rfl, s3 _ _ (s2 _ _ upd_same), upd_same, ?_, fun l4 n4 => ?_⟩
      · rw [rep_false, List.length_map, List.length_map, List.length_replicate, sizeLine_eq]
        show _ + 400 ≤ _
        omega
      have s4 := Same.upd (o := .lst (ps.map V.bl ++ (List.replicate (400 : Int).toNat [V.bl false]).flatten)) n4
      have sall := ((s1.trans s2).trans s3).trans s4
      obtain ⟨b, hb⟩ : ∃ b, (ps ++ List.replicate 400 false)[i]? = some b := ⟨_, List.getElem?_eq_getElem (by rw [List.length_append, List.length_replicate]; omega)⟩
      have hb4 : (ps.map V.bl ++ (List.replicate (400 : Int).toNat [V.bl false]).flatten)[i]? = some (V.bl b) := by
        rw [rep_false, ← List.map_append, List.getElem?_map]
        show Option.map V.bl (ps ++ List.replicate 400 false)[i]? = _
        rw [hb]
        rfl
      refine ⟨_, rfl, l4, _, _, .bl b, rfl, rfl, SqL.of upd_same, at_of (j := i) e0 hb4, _, rfl, ?_⟩
      have hzip : (O.pending.zip (ps ++ List.replicate 400 false))[i]? = some ((blk, what), b) := by
        rw [List.getElem?_zip_eq_some]
        exact ⟨hw, hb⟩
      have hus4 := sall _ _ hus
      have ius4 := ius.same sall
      have hd4 := sall _ _ hd1
      have hvw4 := hvw.same sall
      have out4 : ∀ r x, r ≠ s → H r = some x → (L2.upd (L2.upd (L2.upd (L2.upd H1' l1 (.lst (ps.map V.bl))) l2 (.lst [.bl false])) l3 (.lst (List.replicate (400 : Int).toNat [V.bl false]).flatten)) l4 (.lst (ps.map V.bl ++ (List.replicate (400 : Int).toNat [V.bl false]).flatten))) r = some x := fun r x nr e => sall _ _ (out r x nr e)
      generalize hH4 : L2.upd (L2.upd (L2.upd (L2.upd H1' l1 (HO.lst (ps.map V.bl))) l2 (HO.lst [V.bl false])) l3 (HO.lst (List.replicate (400 : Int).toNat [V.bl false]).flatten)) l4 (HO.lst (ps.map V.bl ++ (List.replicate (400 : Int).toNat [V.bl false]).flatten)) = H4 at hus4 ius4 hd4 hvw4 out4 ⊢
      refine ite2 (fun cb => ?_) (fun cb => ?_)
      · have cb' : b = true := cb
        refine ⟨_, rfl, _, rfl, o, _, rfl, og_s hd4, _, rfl, s, us, (blk : Int), blk, rfl, rfl, hus4, ?_, ?_⟩
        · refine Evl.ixN_nat ?_
          have hbl : blk < 600 := ok.lw (blk, what) (List.mem_of_getElem? hw)
          have l1 := ius4.1
          rw [keeps_len, ok.ls] at l1
          omega
        · have smu : SmT H4 (L2.upd H4 s (.lst (us.set blk vw))) := SmT.put hus4 .lst
          refine ⟨⟨_, _, _, rfl⟩, us.set blk vw, upd_same, ?_, fun r x nr e => (upd_ne nr).trans (out4 _ _ nr e)⟩
          rw [take_moreZ hzip, List.foldl_append]
          show Iss K _ _ (keep1 _ ((blk, what), b))
          unfold keep1
          rw [if_pos cb']
          exact (ius4.set blk hvw4).keep smu
      · refine ⟨⟨_, _, _, rfl⟩, us, hus4, ?_, out4⟩
        rw [take_moreZ hzip, List.foldl_append]
        show Iss K _ _ (keep1 _ ((blk, what), b))
        unfold keep1
        rw [if_neg cb]
        exact ius4
    · rintro σ H1 ⟨⟨v2, v3, v4, rfl⟩, us, hus, ius, out⟩
      have lz : (O.pending.zip (ps ++ List.replicate 400 false)).length = O.pending.length := by
        rw [List.length_zip, List.length_append, List.length_replicate]
        omega
      rw [Int.toNat_natCast, lq, ← lz, List.take_length] at ius
      have sm1 := SmT.but hs out
      have hd1 := out _ _ so.symm hd
      refine ⟨Nat.zero_le _, fun q' nq => ?_⟩
      have s1 := Same.upd (o := .lst []) nq
      have q'o : q' ≠ o := fun z => by
        rw [z, hd1] at nq
        cases nq
      have q's : q' ≠ s := fun z => by
        rw [z, hus] at nq
        cases nq
      have fresh : H q' = none := by
        cases e : H q' with
        | none => rfl
        | some x =>
          rw [out q' x q's e] at nq
          cases nq
      refine ⟨_, rfl, o, _, rfl, op_q (s1 _ _ hd1), ?_⟩
      have sm2 : SmT (L2.upd H1 q' (.lst [])) (L2.upd (L2.upd H1 q' (.lst [])) o (.dK (okvs (.ref s) (.ref q') (deedV O.left) (.ref p) (.bl O.fallen)))) := SmT.put (s1 _ _ hd1) .dK
      refine ⟨_, rfl, o, _, rfl, op_f upd_same, ?_⟩
      have sm3 : SmT (L2.upd (L2.upd H1 q' (.lst [])) o (.dK (okvs (.ref s) (.ref q') (deedV O.left) (.ref p) (.bl O.fallen)))) (L2.upd (L2.upd (L2.upd H1 q' (.lst [])) o (.dK (okvs (.ref s) (.ref q') (deedV O.left) (.ref p) (.bl O.fallen)))) o (.dK (okvs (.ref s) (.ref q') (deedV O.left) (.ref p) (.bl true)))) := SmT.put upd_same .dK
      have sm := (SmT.of s1).trans (sm2.trans sm3)
      have old : ∀ {r x}, r ≠ o → H1 r = some x → (L2.upd (L2.upd (L2.upd H1 q' (.lst [])) o (.dK (okvs (.ref s) (.ref q') (deedV O.left) (.ref p) (.bl O.fallen)))) o (.dK (okvs (.ref s) (.ref q') (deedV O.left) (.ref p) (.bl true)))) r = some x := fun {r x} nr e => (upd_ne nr).trans ((upd_ne nr).trans (s1 _ _ e))
      refine k _ q' ⟨upd_same, ⟨us, old so hus, ius.keep sm⟩, ⟨[], (upd_ne q'o).trans ((upd_ne q'o).trans upd_same), .nil⟩, old po (out _ _ sp.symm hp), ⟨q's.symm, sp, (none_ne hp fresh).symm⟩⟩ fresh fun r x n1 n2 e => old n1 (out _ _ n2 e)
/-- the fall, what stands beside told as things; the picks' list is another thing -/
def spFall (K : PySem.W.Frag) (T : List (Addr × Str)) : Sp := fun vs H Q _ => ∃ (o pp : Addr) (O : Own) (ps : List Bool) (H0 : Hp) (F0 : Foot) (As : List Thing), vs = [.ref o, .ref pp] ∧ St T H0 F0 (ownT K o O :: lstT pp (ps.map V.bl) :: As) H ∧ OwnOk O ∧ ps.length ≤ 1000 ∧
  ∀ H', St T H0 F0 (ownT K o (O.fall ps) :: lstT pp (ps.map V.bl) :: As) H' → SmT H H' → Q .non H'
theorem fall_T {T : List (Addr × Str)} (G : Fn P w K mg base CX0 1 "_law_fall" P__law_fall (spFallA K)) : Fn P w K mg base CX0 1 "_law_fall" P__law_fall (spFall K T) := G.imp fun vs H Q E h => by
  obtain ⟨o, pp, O, ps, H0, F0, As, rfl, st, ok, hl, k⟩ := h
  obtain ⟨s, q, p, hA, mv⟩ := st.own
  refine ⟨o, s, q, p, pp, O, ps, rfl, hA, ok, st.lst2, fun z => ?_, hl, fun H' q' hA' fr out => ?_⟩
  · -- two things
    obtain ⟨⟨F, ⟨F1, F2, a1, ⟨F3, F4, a2, _, _, e2⟩, d, _⟩, _⟩, _⟩ := st
    obtain ⟨s1, q1, p1, hB, e1⟩ := a1
    have i2 := hB.dc
    rw [hA.dc] at i2
    have i2 := Option.some.inj i2
    unfold okvs at i2
    injection i2 with i3
    simp only [List.cons.injEq, Prod.mk.injEq, V.ref.injEq, true_and, and_true] at i3
    exact d pp ((e1 pp).mpr (.inr (.inl (z.trans i3.1)))) ((e2 pp).mpr (.inl ((a2.2 pp).mpr rfl)))
  · obtain ⟨st', sm⟩ := mv (s' := s) (q' := q') (p' := p) hA' (sub_q fr) fun r u f e => out r u (fun z => f (.inl z)) (fun z => f (.inr (.inl z))) e
    exact k _ st' sm
abbrev s__law_count : Stmt := top 33
abbrev N__law_count : List Str := ["_law_own"]
abbrev P__law_count : List Str := ["_law_own"]
theorem sc__law_count : FnScope N__law_count P__law_count (defScope s__law_count) := ⟨rfl, rfl, rfl, by decide +kernel, rfl, by decide +kernel, by decide +kernel⟩
def spCount (K : PySem.W.Frag) (T : List (Addr × Str)) : Sp := fun vs H Q _ => ∃ (o : Addr) (O : Own) (H0 : Hp) (F0 : Foot) (As : List Thing), vs = [.ref o] ∧ St T H0 F0 (ownT K o O :: As) H ∧ OwnOk O ∧
  ∀ H', St T H0 F0 (ownT K o O.count.1 :: As) H' → SmT H H' → Q (.bl O.count.2) H'
theorem ok_count {T : List (Addr × Str)} (D : Df K mg "_law_count" s__law_count P__law_count) (G__law_fall : Fn P w K mg base CX0 1 "_law_fall" P__law_fall (spFallA K)) : Fn P w K mg base CX0 2 "_law_count" P__law_count (spCount K T) := by
  refine D.ok sc__law_count (fun vs H Q E h => ?_) (fun f cdv A outer s H vs Q E hr h => ?_)
  · obtain ⟨o, O, H0, F0, As, rfl, _⟩ := h
    rfl
  · obtain ⟨o, O, H0, F0, As, rfl, st, ok, k⟩ := h
    have nd := sc__law_count.nd
    refine ⟨_, (pss_cons (ps_if (pt_val (pe_dget (hu_of hr) (pv 0) pe_str (fun _ _ => rfl)))
  (pss_one (ps_ret pe_bl))
  pss_nil)
  (pss_cons (ps_if (pt_cmpR op_eq (pe_dget (hu_of hr) (pv 0) pe_str (fun _ _ => rfl)) pe_int (nomark _))
  (pss_cons (ps_expr (pe_c G__law_fall (hr.mono (by decide)) pass0 (pa_cons (pv 0) (pa_cons (pe_dget (hu_of hr) (pv 0) pe_str (fun _ _ => rfl)) pa_nil))))
  (pss_one (ps_ret pe_bl)))
  pss_nil)
  (pss_cons (ps_if (pt_cmpR op_notN (pe_dget (hu_of hr) (pv 0) pe_str (fun _ _ => rfl)) pe_non (nomark _))
  (pss_one (ps_dput (hu_of hr) (pv 0) pe_str (pe_op op_sub (pe_dget (hu_of hr) (pv 0) pe_str (fun _ _ => rfl)) pe_int) rfl))
  pss_nil)
  (pss_one (ps_ret pe_bl))))), ?_⟩
    obtain ⟨s, q, p, hA, mv⟩ := st.own
    obtain ⟨hd, ⟨xs, hs, is⟩, ⟨ys, hq, iq⟩, hp, ap⟩ := id hA
    obtain ⟨sq, sp, qp⟩ := id ap
    obtain ⟨so, qo, po⟩ := hA.apart
    refine ⟨_, rfl, o, _, rfl, og_f hd, _, rfl, ?_⟩
    refine ite2 (fun c => ?_) (fun c => ?_)
    · have e : O.count = (O, false) := by
        unfold Own.count
        rw [if_pos c]
      rw [e] at k
      exact k _ st (SmT.refl H)
    refine ⟨_, rfl, o, _, rfl, og_l hd, ?_⟩
    cases hl : O.left with
    | none =>
      rw [hl] at hd
      have e : O.count = (O, true) := by
        unfold Own.count
        rw [if_neg c, hl]
      rw [e] at k
      refine ⟨rfl, _, rfl, ?_⟩
      refine ite2 (fun z => nomatch (of_decide_eq_true z)) (fun _ => ?_)
      refine ⟨_, rfl, o, _, rfl, og_l hd, rfl, _, rfl, ?_⟩
      refine ite2 (fun z => ?_) (fun _ => ?_)
      · cases z
      · exact k _ st (SmT.refl H)
    | some i =>
      rw [hl] at hd
      refine ⟨rfl, _, rfl, ?_⟩
      refine ite2 (fun z => ?_) (fun z => ?_)
      · have c' : i = 0 := V.int.inj (of_decide_eq_true z)
        have e : O.count = (O.fall O.picks, false) := by
          unfold Own.count
          rw [if_neg c, hl]
          show (if i = 0 then _ else _) = _
          rw [if_pos c']
        rw [e] at k
        refine ⟨_, rfl, _, rfl, o, _, rfl, og_p hd, o, s, q, p, p, O, O.picks, rfl, hA, ok, hp, sp.symm, ok.lp, fun H' q' hA' fr out => ?_⟩
        obtain ⟨st', sm⟩ := mv (s' := s) (q' := q') (p' := p) hA' (sub_q fr) fun r u f e => out r u (fun z => f (.inl z)) (fun z => f (.inr (.inl z))) e
        exact k _ st' sm
      · have c' : ¬ i = 0 := fun y => z (decide_eq_true (congrArg V.int y))
        have e : O.count = ({ O with left := some (i - 1) }, true) := by
          unfold Own.count
          rw [if_neg c, hl]
          show (if i = 0 then _ else _) = _
          rw [if_neg c']
        rw [e] at k
        refine ⟨_, rfl, o, _, rfl, og_l hd, rfl, _, rfl, ?_⟩
        refine ite2 (fun _ => ?_) (fun z => absurd rfl z)
        refine ⟨_, rfl, o, _, rfl, og_l hd, _, _, rfl, rfl, _, rfl, o, _, rfl, op_l hd, ?_⟩
        have smu : SmT H (L2.upd H o (.dK (okvs (.ref s) (.ref q) (.int (i - 1)) (.ref p) (.bl O.fallen)))) := SmT.put hd .dK
        obtain ⟨st', sm⟩ := mv (O' := { O with left := some (i - 1) }) (s' := s) (q' := q) (p' := p) ⟨upd_same, ⟨xs, (upd_ne so).trans hs, is.keep smu⟩, ⟨ys, (upd_ne qo).trans hq, iq.keep smu⟩, (upd_ne po).trans hp, ap⟩ (fun r f => .inl f) fun r u f e => (upd_ne fun z => f (.inl z)).trans e
        exact k _ st' sm
end
end K3

set_option Elab.async false
set_option linter.all false
set_option maxRecDepth 100000
set_option maxHeartbeats 4000000
/-! K13E: a write, by both -/
namespace K3
open PySem PySem.Spec PyProof.Rows L2
def qLam (x : Str) (st : Stmt) : Str := (envOfC x (defScope st) 0 0 .none).qual ++ "<lambda>"
theorem tl_u {T : List (Addr × Str)} {P : Addr} {q : Str} (n : (T.map Prod.fst).Nodup) (h : (P, q) ∈ T) : ∀ p ∈ T, p.1 = P → p.2 = q := by
  induction T with
  | nil => cases h
  | cons t T ih =>
    rw [List.map_cons, List.nodup_cons] at n
    intro p hp e
    rcases List.mem_cons.mp h with h1 | h1
    · rcases List.mem_cons.mp hp with h2 | h2
      · rw [h2, ← h1]
      · have : p.1 ∈ T.map Prod.fst := List.mem_map_of_mem h2
        rw [e] at this
        rw [← h1] at n
        exact absurd this n.1
    · rcases List.mem_cons.mp hp with h2 | h2
      · have : P ∈ T.map Prod.fst := List.mem_map_of_mem (f := Prod.fst) h1
        rw [← e, h2] at this
        exact absurd this n.1
      · exact ih n.2 h1 p h2 e
theorem alk_two {K : PySem.W.Frag} {H : Hp} {t q : Addr} {z : Str} {i : Int} {n : Nat} (h1 : H t = some (.tup [.str z, .int i])) (h2 : H q = some (.tup [.str z, .int i])) : Alk K H (n + 1) (.ref t) (.ref q) :=
  alk_is (d := .tup [.str z, .int i]) (.tup (by show 2 ≤ 10000; decide) fun d hd => by
    simp only [List.mem_cons, List.not_mem_nil, or_false] at hd
    rcases hd with rfl | rfl
    · exact .str _
    · exact .int _) ((Iss.cons (.str _) (Iss.cons (.int _) .nil)).tup (SqT.of h1)) ((Iss.cons (.str _) (Iss.cons (.int _) .nil)).tup (SqT.of h2))
section
variable {T : List (Addr × Str)} {H0 H : Hp} {F0 : Foot} {A B C : Thing} {As : List Thing}
/-- the third ahead; back -/
theorem St.c3 (h : St T H0 F0 (A :: B :: C :: As) H) : St T H0 F0 (C :: A :: B :: As) H := h.perm (((List.Perm.swap C B As).cons A).trans (List.Perm.swap C A (B :: As)))
theorem St.c3' (h : St T H0 F0 (C :: A :: B :: As) H) : St T H0 F0 (A :: B :: C :: As) H := h.perm ((List.Perm.swap A C (B :: As)).trans ((List.Perm.swap B C As).cons A))
end
def Own.put (O : Own) (b : Nat) (d : Dat) : Own := { O with pending := O.pending ++ [(b, d)] }
theorem count_ok {O : Own} (h : O.count.2 = true) : O.count.1.fallen = false := by
  unfold Own.count at h ⊢
  split
  · rename_i c
    rw [if_pos c] at h
    cases h
  · rename_i c
    rw [if_neg c] at h
    split
    · exact Bool.not_eq_true _ |>.mp c
    · rename_i i e
      rw [e] at h
      split
      · rename_i ci
        have h : (if i = 0 then (O.fall O.picks, false) else ({ O with left := some (i - 1) }, true)).2 = true := h
        rw [if_pos ci] at h
        cases h
      · exact Bool.not_eq_true _ |>.mp c
theorem RelD.put {D : Dsk} {O : Own} (r : RelD D O) (f : O.fallen = false) (b : Nat) (d : Dat) : RelD (D.put b d) (O.put b d) := by
  obtain ⟨u1, u2, u3, u4⟩ := r.up f
  refine ⟨r.st, r.run, fun _ => ⟨u1, u2, ?_, ?_⟩, fun z => ?_⟩
  · show D.waiting ++ [(b, d)] = O.pending ++ [(b, d)]
    rw [u3]
  · show D.newest.set b d = (O.pending ++ [(b, d)]).foldl _ O.settled
    rw [List.foldl_append, ← u4]
    rfl
  · have z : O.fallen = true := z
    rw [f] at z
    cases z
theorem OwnOk.put {O : Own} (ok : OwnOk O) {b : Nat} {d : Dat} (hb : b < 600) (few : O.pending.length + 1 < 400) : OwnOk (O.put b d) := ⟨ok.ls, fun q hq => by
  rcases List.mem_append.mp hq with hq | hq
  · exact ok.lw q hq
  · rw [List.mem_singleton.mp hq]
    exact hb, by
  show (O.pending ++ [(b, d)]).length < 400
  rw [List.length_append]
  exact few, ok.lp, ok.lft⟩
theorem DskOk.put {D : Dsk} (ok : DskOk D) {b : Nat} {d : Dat} (hb : b < 600) (few : D.waiting.length < 5000) : DskOk (D.put b d) := ⟨ok.ls, by
  show (D.newest.set b d).length = 600
  rw [List.length_set]
  exact ok.ln, fun q hq => by
  rcases List.mem_append.mp hq with hq | hq
  · exact ok.lw q hq
  · rw [List.mem_singleton.mp hq]
    exact hb, by
  show (D.waiting ++ [(b, d)]).length ≤ 5000
  rw [List.length_append]
  exact few, ok.lp⟩
theorem keeps_all {Pd : Dat → Prop} : ∀ {l : List ((Nat × Dat) × Bool)} {ss : List Dat}, (∀ d ∈ ss, Pd d) → (∀ z ∈ l, Pd z.1.2) → ∀ d ∈ l.foldl keep1 ss, Pd d
  | [], ss, h, _ => h
  | z :: l, ss, h, g => by
    rw [List.foldl_cons]
    refine keeps_all (fun d hd => ?_) (fun y hy => g y (List.mem_cons_of_mem _ hy))
    unfold keep1 at hd
    split at hd
    · rcases List.mem_or_eq_of_mem_set hd with hd | hd
      · exact h d hd
      · rw [hd]
        exact g z (List.mem_cons_self ..)
    · exact h d hd
/-- how deep what is laid and what waits lies -/
def OwnD (O : Own) : Prop := (∀ d ∈ O.settled, DOk 5 d) ∧ ∀ q ∈ O.pending, DOk 5 q.2
theorem OwnD.fall {O : Own} (h : OwnD O) (ps : List Bool) : OwnD (O.fall ps) := ⟨keeps_all h.1 fun z hz => h.2 z.1 (List.of_mem_zip hz).1, fun q hq => by cases hq⟩
theorem OwnD.count {O : Own} (h : OwnD O) : OwnD O.count.1 := by
  unfold Own.count
  split
  · exact h
  · split
    · exact h
    · split
      · exact h.fall _
      · exact h
theorem OwnD.put {O : Own} (h : OwnD O) {b : Nat} {d : Dat} (hd : DOk 5 d) : OwnD (O.put b d) := ⟨h.1, fun q hq => by
  rcases List.mem_append.mp hq with hq | hq
  · exact h.2 q hq
  · rw [List.mem_singleton.mp hq]
    exact hd⟩
/-- both well, and alike -/
structure Both (D : Dsk) (O : Own) : Prop where
  r : RelD D O
  od : DskOk D
  oo : OwnOk O
  dd : ∀ i, D.deeds = some i → i.natAbs < 2 ^ 64
  dp : OwnD O
theorem spend_deeds {D : Dsk} (h : ∀ i, D.deeds = some i → i.natAbs < 2 ^ 64) : ∀ i, D.spend.1.deeds = some i → i.natAbs < 2 ^ 64 := by
  unfold Dsk.spend
  split
  · split
    · exact h
    · rename_i i e
      split
      · have : (D.stop D.picks).deeds = D.deeds := by
          unfold Dsk.stop
          split <;> rfl
        show ∀ i, (D.stop D.picks).deeds = some i → _
        rw [this]
        exact h
      · have := h i e
        intro j hj
        cases hj
        omega
  · exact h
section
variable {P : Program} {w : World} {K : PySem.W.Frag} {mg : Str → Option Value} {base : Heap}
/-- write, what stands beside told as things; the deeds count only while it runs -/
def spWriteC (K : PySem.W.Frag) (T : List (Addr × Str)) (C CS CB : Addr) : Sp := fun vs H Q E => ∃ (a : Addr) (b : Int) (v : V) (d : Dat) (D : Dsk) (H0 : Hp) (F0 : Foot) (As : List Thing), vs = [.ref a, .int b, v] ∧ St T H0 F0 (diskT K C a D :: As) H ∧ DskOk D ∧ (∀ i, D.deeds = some i → i.natAbs < 2 ^ 64) ∧ b.natAbs < 2 ^ 64 ∧ Is K H v d ∧ d.size ≤ 10000 ∧
  (¬ (0 ≤ b ∧ b < 600 ∧ d.weight ≤ 40) → ∀ H', Same H H' → E (.ref CB) none H') ∧
  (0 ≤ b ∧ b < 600 ∧ d.weight ≤ 40 → (D.spend.2 = true → ∀ H', St T H0 F0 (diskT K C a (D.spend.1.put b.toNat d) :: As) H' → SmT H H' → Q .non H') ∧ (D.spend.2 = false → ∀ H', St T H0 F0 (diskT K C a D.spend.1 :: As) H' → SmT H H' → E (.ref CS) none H'))
theorem write_C {T : List (Addr × Str)} {k : Nat} {C CS CB : Addr} (M : Mth P w K mg base (L2.CX P w) k C "write" P_Disk_write (spWrite K T C CS CB)) : Mth P w K mg base (L2.CX P w) k C "write" P_Disk_write (spWriteC K T C CS CB) := M.imp fun vs H Q E h => by
  obtain ⟨a, b, v, d, D, H0, F0, As, rfl, st, ok, h64, hb, hv, hz, k0, k1⟩ := h
  obtain ⟨F1, hF, back⟩ := st.step (Cs := [diskT K C a D]) (Ds := As) (.refl _)
  exact ⟨a, b, v, d, D, F1, rfl, hF, st.tabs, ok, h64, hb, hv, hz, k0, fun g => ⟨fun t H' s => (k1 g).1 t H' (back s).1 (back s).2, fun t H' s => (k1 g).2 t H' (back s).1 (back s).2⟩⟩
abbrev s__law_write : Stmt := top 34
abbrev N__law_write : List Str := ["_law_box", "_law_disk", "_law_own", "_law_block", "_law_what_here", "_law_due"]
abbrev P__law_write : List Str := ["_law_box", "_law_disk", "_law_own"]
theorem sc__law_write : FnScope N__law_write P__law_write (defScope s__law_write) := ⟨rfl, rfl, rfl, by decide +kernel, rfl, by decide +kernel, by decide +kernel⟩
def spLwr (K : PySem.W.Frag) (T : List (Addr × Str)) (C : Addr) : Sp := fun vs H Q _ => ∃ (b a o : Addr) (D : Dsk) (O : Own) (H0 : Hp) (F0 : Foot) (As : List Thing), vs = [.ref b, .ref a, .ref o] ∧ St T H0 F0 (boxT b :: diskT K C a D :: ownT K o O :: As) H ∧ Both D O ∧ O.pending.length + 1 < 400 ∧
  ∀ H' D' O', St T H0 F0 (boxT b :: diskT K C a D' :: ownT K o O' :: As) H' → Both D' O' → O'.pending.length ≤ O.pending.length + 1 → Q (.bl true) H'
/-- what the told lambda makes of a write -/
def TW (K : PySem.W.Frag) (T : List (Addr × Str)) (C a : Addr) (D : Dsk) (y : Int) (v : V) (d : Dat) : Hp → VK → Prop := fun H' Q' => ∃ (H0 : Hp) (F0 : Foot) (As : List Thing), St T H0 F0 (diskT K C a D :: As) H' ∧ Is K H' v d ∧
  (¬ (0 ≤ y ∧ y < 600 ∧ d.weight ≤ 40) → ∀ t H'', Same H' H'' → H'' t = some (.tup [.str (cnm 10), .int 0]) → Q' (.ref t) H'') ∧
  (0 ≤ y ∧ y < 600 ∧ d.weight ≤ 40 → (D.spend.2 = true → ∀ H'', St T H0 F0 (diskT K C a (D.spend.1.put y.toNat d) :: As) H'' → SmT H' H'' → Q' .non H'') ∧
    (D.spend.2 = false → ∀ t H1 H'', St T H0 F0 (diskT K C a D.spend.1 :: As) H1 → SmT H' H1 → Same H1 H'' → H'' t = some (.tup [.str (cnm 11), .int 0]) → Q' (.ref t) H''))
theorem ok_lwr {T : List (Addr × Str)} {cs : Nat → Addr} {C Pt c : Addr} (hm : (Pt, qLam "_law_write" s__law_write) ∈ T) (hn : (T.map Prod.fst).Nodup) (T0 : Txt mg) (D0 : DfT K mg "_law_write" s__law_write P__law_write c) (TB : LamX.TabB base mg c Pt) (C_Disk : DiskC K mg C)
    (G_told : ∀ b, Fn P w K mg b CX0 5 "_law_told" P__law_told (spTold P w K mg 3 cs b)) (G__law_alike : Fn P w K mg base CX0 9 "_law_alike" P__law_alike (spAlike K 8))
    (G__law_take : Fn P w K mg base CX0 1 "_law_take" P__law_take (spDraw T)) (G__law_what : Fn P w K mg base CX0 6 "_law_what" P__law_what (spWhat K T)) (G__law_weight : Fn P w K mg base CX0 7 "_law_weight" P__law_weight (spWgh K 6))
    (G__law_count : Fn P w K mg base CX0 2 "_law_count" P__law_count (spCount K T)) (M_write : ∀ b, Mth P w K mg b (L2.CX P w) 3 C "write" P_Disk_write (spWriteC K T C (cs 11) (cs 10))) : Fn P w K mg base CX0 10 "_law_write" P__law_write (spLwr K T C) := by
  refine D0.ok sc__law_write (fun vs H Q E h => ?_) (fun f A outer s H vs Q E hr h => ?_)
  · obtain ⟨b, a, o, D, O, H0, F0, As, rfl, _⟩ := h
    rfl
  · obtain ⟨b, a, o, D, O, H0, F0, As, rfl, st, bo, few, k⟩ := h
    have nd := sc__law_write.nd
    refine ⟨_, (pss_cons (ps_set (i := 3) nd rfl (by first | exact Or.inl rfl | exact Or.inr rfl) (pe_ix ix_list (pe_lst (pa_cons (pe_c G__law_take (hr.mono (by decide)) pass0 (pa_cons (pv 0) (pa_cons pe_int pa_nil))) (pa_cons (pe_c G__law_take (hr.mono (by decide)) pass0 (pa_cons (pv 0) (pa_cons pe_int pa_nil))) (pa_cons (pe_ix ix_list (pe_lst (pa_cons (pe_un un_neg pe_int) (pa_cons pe_int (pa_cons (pe_op op_pow pe_int pe_int) pa_nil)))) (pe_c G__law_take (hr.mono (by decide)) pass0 (pa_cons (pv 0) (pa_cons pe_int pa_nil))) (fun _ _ => rfl)) pa_nil)))) (pe_op op_fdiv (pe_c G__law_take (hr.mono (by decide)) pass0 (pa_cons (pv 0) (pa_cons pe_int pa_nil))) pe_int) (fun _ _ => rfl)))
  (pss_cons (ps_set (i := 4) nd rfl (by first | exact Or.inl rfl | exact Or.inr rfl) (pe_c G__law_what (hr.mono (by decide)) pass0 (pa_cons (pv 0) pa_nil)))
  (pss_cons (ps_set (i := 5) nd rfl (by first | exact Or.inl rfl | exact Or.inr rfl) (pe_tup (pa_cons pe_str (pa_cons pe_int pa_nil))))
  (Evl.pss_cut (ps_if (PW.pt (pw_and (pt_chain op_le op_lt pe_int (pv 3) pe_int) (pw_and1 (pt_cmpR op_le (pe_c G__law_weight (hr.mono (by decide)) pass0 (pa_cons (pv 4) pa_nil)) pe_int (nomark _)))))
  (pss_cons (ps_set (i := 5) nd rfl (by first | exact Or.inl rfl | exact Or.inr rfl) (pe_ifExp (pt_val (pe_c G__law_count (hr.mono (by decide)) pass0 (pa_cons (pv 2) pa_nil))) pe_non (pe_tup (pa_cons pe_str (pa_cons pe_int pa_nil)))))
  (pss_one (ps_if (pt_cmpR op_isN (pv 5) pe_non (nomark _))
  (pss_one (ps_expr (pe_bm PySem.F.plainAttrs_list PySem.F.slot_list_append PySem.F.type_list_append mt_append (pe_dget (hu_of hr) (pv 2) pe_str (fun _ _ => rfl)) (pa_cons (pe_tup (pa_cons (pv 3) (pa_cons (pv 4) pa_nil))) pa_nil))))
  pss_nil)))
  pss_nil)
  (pss_one (ps_ret (pe_c G__law_alike (hr.mono (by decide)) pass0 (pa_cons (pe_callL (fun b => G_told b) (hr.mono (by decide)) (fun _ => rfl) (pa_cons (pe_lam0 (c := c) (P := Pt) (T := T) TB rfl hm (tl_u hn hm) (lamP_by (show lamPB N__law_write (defScope s__law_write) _ [] = true by decide +kernel)).free rfl) pa_nil)) (pa_cons (pv 5) pa_nil))))))))), ?_⟩
    refine ⟨_, rfl, b, 600, rfl, H0, F0, _, st, by decide, by decide, fun H1 x1 st1 sm1 x10 x11 => ?_⟩
    refine ⟨_, rfl, b, 3, rfl, H0, F0, _, st1, by decide, by decide, fun H2 x2 st2 sm2 x20 x21 => ?_⟩
    refine ⟨_, rfl, _, _, rfl, rfl, ⟨by decide, by decide, by decide⟩, (by show 3 ≤ sizeLine; decide), fun q1 nq1 => ?_⟩
    have st3 := st2.new2 (xs := [-1, 600, 1000000000000000000].map V.int) nq1
    refine ⟨_, rfl, b, 3, rfl, H0, F0, _, st3, by decide, by decide, fun H4 x3 st4 sm4 x30 x31 => ?_⟩
    obtain ⟨y3, hy3, ya3⟩ := pickZ (zs := [-1, 600, 1000000000000000000]) x30 x31
    refine ⟨q1, _, x3, _, rfl, rfl, SqL.of st4.lst2, ya3, (by show 3 ≤ sizeLine; decide), fun q2 nq2 => ?_⟩
    have st5 := st4.del2.new2 (xs := [x1, x2, y3].map V.int) nq2
    refine ⟨_, rfl, b, 9, rfl, H0, F0, _, st5, by decide, by decide, fun H6 x4 st6 sm6 x40 x41 => ⟨_, _, rfl, rfl, ⟨by decide, by decide⟩, ?_⟩⟩
    obtain ⟨y, hy, ya⟩ := pickZ (zs := [x1, x2, y3]) (v := x4 / 4) (by omega) (by show x4 / 4 < 3; omega)
    have y64 : y.natAbs < 2 ^ 64 := by
      simp only [List.mem_cons, List.not_mem_nil, or_false] at hy hy3
      omega
    refine ⟨q2, _, x4 / 4, _, rfl, rfl, SqL.of st6.lst2, ya, ?_⟩
    have st6 := st6.del2
    refine ⟨_, rfl, b, H0, F0, _, rfl, st6, fun H7 v d st7 sm7 iv okd hz => ?_⟩
    refine ⟨(by show 2 ≤ sizeLine; decide), fun t nt => ?_⟩
    have s8 := Same.upd (o := .tup [.str "BadBlock", .int 0]) nt
    have st8 := st7.same s8
    have iv8 := iv.same s8
    have ht8 : (L2.upd H7 t (.tup [.str "BadBlock", .int 0])) t = some (.tup [.str (cnm 10), .int 0]) := upd_same
    generalize hH8 : L2.upd H7 t (HO.tup [V.str "BadBlock", V.int 0]) = H8 at st8 iv8 ht8 ⊢
    refine ⟨fun σ H9 => ∃ due, σ = [some (.ref b), some (.ref a), some (.ref o), some (.int y), some v, some due] ∧ Is K H9 v d ∧
      ((¬ (0 ≤ y ∧ y < 600 ∧ d.weight ≤ 40) ∧ (∃ t, due = .ref t ∧ H9 t = some (.tup [.str (cnm 10), .int 0])) ∧ St T H0 F0 (boxT b :: diskT K C a D :: ownT K o O :: As) H9) ∨
       ((0 ≤ y ∧ y < 600 ∧ d.weight ≤ 40) ∧ O.count.2 = false ∧ (∃ t, due = .ref t ∧ H9 t = some (.tup [.str (cnm 11), .int 0])) ∧ St T H0 F0 (boxT b :: diskT K C a D :: ownT K o O.count.1 :: As) H9) ∨
       ((0 ≤ y ∧ y < 600 ∧ d.weight ≤ 40) ∧ O.count.2 = true ∧ due = .non ∧ St T H0 F0 (boxT b :: diskT K C a D :: ownT K o (O.count.1.put y.toNat d) :: As) H9)), ?_, ?_⟩
    · -- what is due
      have bad : ¬ (0 ≤ y ∧ y < 600 ∧ d.weight ≤ 40) → ∀ H9, Same H8 H9 → ∃ due, [some (V.ref b), some (.ref a), some (.ref o), some (.int y), some v, some (.ref t)] = [some (V.ref b), some (.ref a), some (.ref o), some (.int y), some v, some due] ∧ Is K H9 v d ∧
        ((¬ (0 ≤ y ∧ y < 600 ∧ d.weight ≤ 40) ∧ (∃ t, due = .ref t ∧ H9 t = some (.tup [.str (cnm 10), .int 0])) ∧ St T H0 F0 (boxT b :: diskT K C a D :: ownT K o O :: As) H9) ∨
         ((0 ≤ y ∧ y < 600 ∧ d.weight ≤ 40) ∧ O.count.2 = false ∧ (∃ t, due = .ref t ∧ H9 t = some (.tup [.str (cnm 11), .int 0])) ∧ St T H0 F0 (boxT b :: diskT K C a D :: ownT K o O.count.1 :: As) H9) ∨
         ((0 ≤ y ∧ y < 600 ∧ d.weight ≤ 40) ∧ O.count.2 = true ∧ due = .non ∧ St T H0 F0 (boxT b :: diskT K C a D :: ownT K o (O.count.1.put y.toNat d) :: As) H9)) :=
        fun nb H9 s9 => ⟨.ref t, rfl, iv8.same s9, .inl ⟨nb, ⟨t, rfl, s9 _ _ ht8⟩, st8.same s9⟩⟩
      refine ⟨_, rfl, _, _, rfl, rfl, _, rfl, ?_⟩
      refine ite2 (fun c => ?_) (fun c => ?_)
      rotate_left
      · have c' : ¬ 0 ≤ y := fun z => c (decide_eq_true z)
        exact ⟨_, rfl, ite2 (fun z => Bool.noConfusion z) (fun _ => bad (fun z => c' z.1) _ (Same.refl _))⟩
      have y0 : 0 ≤ y := of_decide_eq_true c
      refine ⟨_, _, rfl, rfl, _, rfl, ?_⟩
      refine ite2 (fun c => ?_) (fun c => ?_)
      rotate_left
      · have c' : ¬ y < 600 := fun z => c (decide_eq_true z)
        exact bad (fun z => c' z.2.1) _ (Same.refl _)
      have y6 : y < 600 := of_decide_eq_true c
      refine ⟨_, rfl, v, d, 5, rfl, by decide, iv8, okd, fun H9 s9 => ⟨_, _, rfl, rfl, _, rfl, ?_⟩⟩
      refine ite2 (fun c => ?_) (fun c => ?_)
      rotate_left
      · have c' : ¬ ((d.weight : Nat) : Int) ≤ 40 := fun z => c (decide_eq_true z)
        exact bad (fun z => c' (by omega)) _ s9
      have yw : ((d.weight : Nat) : Int) ≤ 40 := of_decide_eq_true c
      have st9 := st8.same s9
      have iv9 := iv8.same s9
      refine ⟨_, rfl, o, O, H0, F0, _, rfl, st9.c3, bo.oo, fun H10 st10 sm10 => ⟨_, rfl, ?_⟩⟩
      have st10 := st10.c3'
      have iv10 := iv9.keep sm10
      refine ite2 (fun c => ?_) (fun c => ?_)
      · have c' : O.count.2 = true := c
        refine ⟨_, rfl, rfl, _, rfl, ?_⟩
        refine ite2 (fun _ => ?_) (fun z => absurd rfl z)
        have st10' := st10.c3
        obtain ⟨s', q', p', hA, mv⟩ := st10'.own
        obtain ⟨hd, ⟨xs, hs, is⟩, ⟨ys, hq, iq⟩, hp, ap⟩ := id hA
        obtain ⟨so, qo, po⟩ := hA.apart
        refine ⟨_, rfl, o, _, rfl, og_q hd, .inl ⟨rfl, _, SqL.of hq⟩, ?_⟩
        refine ⟨_, rfl, _, rfl, (by show 2 ≤ sizeLine; decide), fun t2 nt2 => ?_⟩
        have s11 := Same.upd (o := .tup [.int y, v]) nt2
        have lq := iq.1
        rw [List.length_map] at lq
        have lq2 := count_pending (O := O)
        refine ⟨q', ys, .ref t2, rfl, rfl, s11 _ _ hq, by rw [sizeLine_eq]; omega, ?_⟩
        have it2 : Is K (L2.upd H10 t2 (.tup [.int y, v])) (.ref t2) (waitD (y.toNat, d)) := by
          have e : ((y.toNat : Nat) : Int) = y := Int.toNat_of_nonneg y0
          have := (Iss.cons (Is.int (K := K) y) (Iss.cons iv10 .nil)).made nt2
          unfold waitD
          rw [e]
          exact this
        have smu : SmT (L2.upd H10 t2 (.tup [.int y, v])) (L2.upd (L2.upd H10 t2 (.tup [.int y, v])) q' (.lst (ys ++ [.ref t2]))) := SmT.put (s11 _ _ hq) .lst
        obtain ⟨st11, sm11⟩ := mv (O' := O.count.1.put y.toNat d) (s' := s') (q' := q') (p' := p') ⟨(upd_ne qo.symm).trans (s11 _ _ hd), ⟨xs, (upd_ne ap.1).trans (s11 _ _ hs), (is.same s11).keep smu⟩, ⟨_, upd_same, by
          show Iss K _ _ ((O.count.1.pending ++ [(y.toNat, d)]).map waitD)
          rw [List.map_append]
          exact ((iq.same s11).app (Iss.cons it2 .nil)).keep smu⟩, (upd_ne ap.2.2.symm).trans (s11 _ _ hp), ap⟩ (fun r f => .inl f) fun r u f e => (upd_ne fun z => f (.inr (.inr (.inl z)))).trans (s11 _ _ e)
        exact ⟨.non, rfl, iv10.keep sm11, .inr (.inr ⟨⟨y0, y6, by omega⟩, c', rfl, st11.c3'⟩)⟩
      · have c' : O.count.2 = false := Bool.not_eq_true _ |>.mp c
        refine ⟨(by show 2 ≤ sizeLine; decide), fun t2 nt2 => ?_⟩
        have s11 := Same.upd (o := .tup [.str "Stopped", .int 0]) nt2
        refine ⟨_, rfl, rfl, _, rfl, ?_⟩
        refine ite2 (fun z => nomatch (of_decide_eq_true z)) (fun _ => ?_)
        exact ⟨.ref t2, rfl, iv10.same s11, .inr (.inl ⟨⟨y0, y6, by omega⟩, c', ⟨t2, rfl, upd_same⟩, st10.same s11⟩)⟩
    · -- what is told
      rintro σ H9 ⟨due, rfl, iv9, cases3⟩
      obtain ⟨r1, r2⟩ := bo.r.count bo.oo
      have od1 := bo.od.spend
      have oo1 := bo.oo.count
      have dd1 := spend_deeds bo.dd
      have cp := count_pending (O := O)
      have stA : ∃ O1, St T H0 F0 (boxT b :: diskT K C a D :: ownT K o O1 :: As) H9 := by
        rcases cases3 with ⟨_, _, st⟩ | ⟨_, _, _, st⟩ | ⟨_, _, _, st⟩ <;> exact ⟨_, st⟩
      obtain ⟨O1, stA⟩ := stA
      refine ⟨stA.tabs, fun f1 d1 Ha e1 t1 M1 => fun b' LB => ⟨f1, TW K T C a D y v d, Ha, rfl, ?_, Same.refl _, ?_⟩⟩
      · refine work_of (k := 3) (t := fun E => tMeth C "write" (spWriteC K T C (cs 11) (cs 10)) [] E (tVar 1) (tCons (tVar 3) (tCons (tVar 4) tNil))) (ps := []) LB M1 (lamP_by (show lamPB N__law_write (defScope s__law_write) _ _ = true by decide +kernel)) (.inl ⟨rfl, fun _ _ _ _ _ _ => rfl⟩) (fun A outer s H E hr2 => pe_m (pv 1) C_Disk.cl (M_write _) hr2 (passes_at (fun σ => passAt (takes_of rfl rfl rfl rfl) σ)) (pa_cons (pv 3) (pa_cons (pv 4) pa_nil))) (fun H' Q' E s' Tt hE => ?_)
        obtain ⟨H0', F0', As', stw, ivw, k0, k1⟩ := Tt
        obtain ⟨s3, n3, w3, p3, hA3, _⟩ := stw.disk
        obtain ⟨dx, hi3⟩ := hA3.ins
        exact ⟨_, rfl, a, dx, _, rfl, hi3, dn_write, _, rfl, _, rfl, a, y, v, d, D, H0', F0', As', rfl, stw, bo.od, bo.dd, y64, ivw, by omega,
          fun nb H'' s'' => hE _ _ _ ⟨10, 0, by decide, rfl, .inl ⟨by decide, by decide, by decide, rfl, rfl⟩, fun H3 t s3 _ ht => k0 nb t _ (s''.trans s3) ht⟩,
          fun g => ⟨fun t H'' st'' sm'' => (k1 g).1 t H'' st'' sm'', fun t H'' st'' sm'' => hE _ _ _ ⟨11, 0, by decide, rfl, .inl ⟨by decide, by decide, by decide, rfl, rfl⟩, fun H3 u s3 _ ht => (k1 g).2 t u H'' H3 st'' sm'' s3 ht⟩⟩⟩
      · have smA : SmT H9 Ha := .ext e1
        rcases cases3 with ⟨nb, ⟨t, rfl, ht⟩, st9⟩ | ⟨g, cf, ⟨t, rfl, ht⟩, st9⟩ | ⟨g, ct, rfl, st9⟩
        · have sta := (st9.ext e1 t1)
          refine ⟨H0, F0, _, sta.swap, iv9.keep smA, fun _ t' H10 s10 ht' => ?_, fun g => absurd g nb⟩
          have hta := s10 _ _ (e1 _ _ ht fun _ z => by cases z)
          refine ⟨_, rfl, .ref t', .ref t, rfl, 1, by decide, alk_two ht' hta, ?_⟩
          exact k _ D O (sta.same s10) bo (by omega)
        · have sta := (st9.ext e1 t1)
          refine ⟨H0, F0, _, sta.swap, iv9.keep smA, fun nb => absurd g nb, fun _ => ⟨fun ht2 => ?_, fun _ t' H10 H11 st10 sm10 s11 ht' => ?_⟩⟩
          · rw [r2, cf] at ht2
            cases ht2
          · have hta := s11 _ _ (sm10 _ _ (e1 _ _ ht fun _ z => by cases z) (.inl ⟨_, rfl⟩))
            refine ⟨_, rfl, .ref t', .ref t, rfl, 1, by decide, alk_two ht' hta, ?_⟩
            exact k _ D.spend.1 O.count.1 (st10.same s11).swap ⟨r1, od1, oo1, dd1, bo.dp.count⟩ (by omega)
        · have sta := (st9.ext e1 t1)
          refine ⟨H0, F0, _, sta.swap, iv9.keep smA, fun nb => absurd g nb, fun _ => ⟨fun _ H10 st10 sm10 => ?_, fun hf => ?_⟩⟩
          · refine ⟨_, rfl, .non, .non, rfl, 0, by decide, .non, ?_⟩
            have ff := count_ok ct
            have e3 := (r1.up ff).2.2.1
            have hb : y.toNat < 600 := by omega
            exact k _ (D.spend.1.put y.toNat d) (O.count.1.put y.toNat d) st10.swap ⟨r1.put ff _ _, od1.put hb (by rw [e3]; omega), oo1.put hb (by omega), dd1, bo.dp.count.put okd⟩ (by
              show (O.count.1.pending ++ [(y.toNat, d)]).length ≤ _
              rw [List.length_append]
              show _ + 1 ≤ _
              omega)
          · rw [r2, ct] at hf
            cases hf
end
end K3

set_option Elab.async false
set_option linter.all false
set_option maxRecDepth 100000
set_option maxHeartbeats 4000000
/-! KQ: == and != of data with a Lean type -/
namespace K3
open PySem PySem.Spec PyProof.Rows L2
/-- x is the data a -/
def IsD {α : Type} [DecidableEq α] [PySem.W.Datum α] (K : PySem.W.Frag) (H : Hp) (x : V) (a : α) : Prop := Dp K H x (PySem.W.Datum.toD a)
section
variable {α β : Type} [DecidableEq α] [PySem.W.Datum α] [DecidableEq β] [PySem.W.Datum β] {K : PySem.W.Frag} {H H' : Hp}
theorem isD_int {i : Int} : IsD K H (.int i) i := Dp.int i
theorem isD_bl {b : Bool} : IsD K H (.bl b) b := Dp.bl b
theorem isD_str {z : Str} : IsD K H (.str z) z := Dp.str z
theorem dpAll_of {xs : List V} {as : List α} (h : Paired (IsD K H) xs as) : DpAll K H xs (as.map PySem.W.Datum.toD) := by
  induction h with
  | nil => exact .nil
  | cons h _ ih => exact .cons h ih
theorem isD_lst {p : Addr} {xs : List V} {as : List α} (hp : SqL K H p xs) (h : Paired (IsD K H) xs as) : IsD K H (.ref p) as := Dp.lst hp (dpAll_of h)
theorem isD_pair {p : Addr} {x y : V} {a : α} {b : β} (hp : SqT K H p [x, y]) (h1 : IsD K H x a) (h2 : IsD K H y b) : IsD K H (.ref p) (a, b) := Dp.tup hp (.cons h1 (.cons h2 .nil))
theorem isD_ints {p : Addr} {ns : List Int} (hp : SqL K H p (ns.map V.int)) : IsD K H (.ref p) ns := Dp.lst hp (dpAll_intsD ns)
where
  dpAll_intsD : ∀ ns : List Int, DpAll K H (ns.map V.int) (ns.map PySem.W.Datum.toD)
    | [] => .nil
    | n :: r => .cons (.int n) (dpAll_intsD r)
theorem isD_nil {p : Addr} (hp : SqL K H p []) : IsD K H (.ref p) ([] : List α) := Dp.lst hp .nil
end
def rEqM (α : Type) [DecidableEq α] [PySem.W.Datum α] (K : PySem.W.Frag) (neg : Bool) : R2 := fun x y H Q => ∃ a b : α, IsD K H x a ∧ IsD K H y b ∧ Q (.bl (if neg then !decide (a = b) else decide (a = b))) H
section
variable {X : Cx} {α : Type} [DecidableEq α] [PySem.W.Datum α]
theorem op_eqM (hu : X.A.units + 64 < cLine) (hd : PySem.W.Datum.depth α ≤ 60) : OpR X (compareOp .Eq) (rEqM α X.K false) := by
  intro pins s σ H x y v u Q I rx ry h
  obtain ⟨a, b, h1, h2, q⟩ := h
  obtain ⟨as, r1⟩ := Dp.reads I _ x v h1 rx
  obtain ⟨bs, r2⟩ := Dp.reads I _ y u h2 ry
  have d1 := PySem.W.Datum.depth_le a
  refine PySem.SeqAt.eq_plain r1 r2 (PySem.W.Datum.plain a) (PySem.W.Datum.plain b) (by omega) ⟨.bl _, H, I, rfl, ?_⟩
  rw [PySem.W.Datum.eqv]
  exact q
theorem op_neM (hu : X.A.units + 64 < cLine) (hd : PySem.W.Datum.depth α ≤ 60) : OpR X (compareOp .NotEq) (rEqM α X.K true) := by
  intro pins s σ H x y v u Q I rx ry h
  obtain ⟨a, b, h1, h2, q⟩ := h
  obtain ⟨as, r1⟩ := Dp.reads I _ x v h1 rx
  obtain ⟨bs, r2⟩ := Dp.reads I _ y u h2 ry
  have d1 := PySem.W.Datum.depth_le a
  refine PySem.SeqAt.ne_plain r1 r2 (PySem.W.Datum.plain a) (PySem.W.Datum.plain b) (by omega) ⟨.bl _, H, I, rfl, ?_⟩
  rw [PySem.W.Datum.eqv]
  exact q
end
end K3

set_option Elab.async false
set_option linter.all false
set_option maxRecDepth 100000
set_option maxHeartbeats 4000000
/-! K13F: armed, stopped, begun again, both -/
namespace K3
open PySem PySem.Spec PyProof.Rows L2
section
variable {T : List (Addr × Str)} {H0 H H' : Hp} {F0 : Foot} {As : List Thing} {K : PySem.W.Frag} {o pk : Addr} {O : Own} {ps : List Bool}
theorem St.ord (Fs : List Thing) (h : St T H0 F0 (Fs ++ As) H) (is : List Nat) (p : is.isPerm (List.range Fs.length) = true) : St T H0 F0 (pick Fs is ++ As) H := h.perm ((pick_perm (List.isPerm_iff.mp p)).append_right As)
/-- the law's own disk, the list of its picks at p -/
def ownPT (K : PySem.W.Frag) (o p : Addr) (O : Own) : Thing := ⟨fun H F => ∃ s q, OwnA K H o s q p O ∧ ∀ r, F r ↔ ownF o s q p r,
  fun ⟨s, q, h, e⟩ r f => (ownT K o O).mt ⟨s, q, p, h, e⟩ r f,
  fun ⟨s, q, ⟨h1, ⟨xs, h2, i2⟩, ⟨ys, h3, i3⟩, h4, ap⟩, e⟩ k sm =>
    have k' : ∀ r u, ownF o s q p r → _ → _ := fun r u f => k r u ((e r).mpr f)
    ⟨s, q, ⟨k' _ _ (.inl rfl) h1, ⟨xs, k' _ _ (.inr (.inl rfl)) h2, i2.keep sm⟩, ⟨ys, k' _ _ (.inr (.inr (.inl rfl))) h3, i3.keep sm⟩, k' _ _ (.inr (.inr (.inr rfl))) h4, ap⟩, e⟩⟩
theorem St.ownSee (h : St T H0 F0 (ownPT K o pk O :: As) H) : St T H0 F0 (ownT K o O :: As) H := h.see fun F1 ⟨s, q, a, e⟩ => ⟨s, q, pk, a, e⟩
theorem St.ownP (h : St T H0 F0 (ownPT K o pk O :: As) H) : H pk = some (.lst (O.picks.map V.bl)) := by
  obtain ⟨F1, ⟨s, q, a, e⟩, _⟩ := h.get
  exact a.hp
/-- a list of truths becomes its picks -/
theorem St.ownTake (h : St T H0 F0 (ownT K o O :: lstT pk (ps.map V.bl) :: As) H) : ∃ s q p, OwnA K H o s q p O ∧ (pk ≠ o ∧ pk ≠ s ∧ pk ≠ q) ∧ ∀ {H' O'}, OwnA K H' o s q pk O' → (∀ r u, r ≠ o → H r = some u → H' r = some u) → St T H0 F0 (ownPT K o pk O' :: As) H' ∧ SmT H H' := by
  obtain ⟨F1, hF, c⟩ := h.step (Cs := [ownT K o O, lstT pk (ps.map V.bl)]) (Ds := As) (.refl _)
  have m1 := Holds.mut hF
  obtain ⟨G1, G2, ⟨s, q, p, hA, e1⟩, ⟨G3, G4, ⟨hp, e3⟩, n4, _, e2⟩, d, e⟩ := hF
  have g2 : G2 pk := (e2 pk).mpr (.inl ((e3 pk).mpr rfl))
  refine ⟨s, q, p, hA, ⟨fun z => d o ((e1 o).mpr (.inl rfl)) (z ▸ g2), fun z => d s ((e1 s).mpr (.inr (.inl rfl))) (z ▸ g2), fun z => d q ((e1 q).mpr (.inr (.inr (.inl rfl)))) (z ▸ g2)⟩, fun {H' O'} hA' out => ?_⟩
  have mv : Mv T F1 H H' := .of m1 fun r u n e0 => out r u (fun z => n ((e r).mpr (.inl ((e1 r).mpr (.inl z))))) e0
  refine c (Bs := [ownPT K o pk O']) ⟨⟨ownF o s q pk, Holds.of ⟨s, q, hA', fun r => Iff.rfl⟩, fun r f => .inl ?_⟩, mv, mv.tabs h.tabs⟩
  rcases f with f | f | f | f
  · exact (e r).mpr (.inl ((e1 r).mpr (.inl f)))
  · exact (e r).mpr (.inl ((e1 r).mpr (.inr (.inl f))))
  · exact (e r).mpr (.inl ((e1 r).mpr (.inr (.inr (.inl f)))))
  · exact (e r).mpr (.inr (f ▸ g2))
end
theorem RelD.arm {D : Dsk} {O : Own} (r : RelD D O) (f : O.fallen = false) (i : Int) (ps : List Bool) : RelD (D.arm i ps) { O with left := some i, picks := ps } := by
  have hr : D.running = true := by rw [r.run, f]; rfl
  unfold Dsk.arm
  rw [if_pos hr]
  obtain ⟨u1, u2, u3, u4⟩ := r.up f
  exact ⟨r.st, r.run, fun _ => ⟨rfl, rfl, u3, u4⟩, r.dn⟩
theorem arm_no {D : Dsk} {O : Own} (r : RelD D O) (f : O.fallen = true) (i : Int) (ps : List Bool) : D.arm i ps = D := by
  have hr : D.running = false := by rw [r.run, f]; rfl
  unfold Dsk.arm
  rw [if_neg (by rw [hr]; decide)]
def Own.again (O : Own) : Own := { O with pending := [], left := none, picks := [], fallen := false }
theorem RelD.again {D : Dsk} {O : Own} (r : RelD D O) : RelD D.again O.again := ⟨r.st, rfl, fun _ => ⟨rfl, rfl, rfl, r.st⟩, fun z => by cases z⟩
theorem Both.fall {D : Dsk} {O : Own} (h : Both D O) (ps : List Bool) : Both (D.stop ps) (O.fall ps) := ⟨h.r.fall ps, h.od.stop ps, h.oo.fall ps, by
  have : (D.stop ps).deeds = D.deeds := by
    unfold Dsk.stop
    split <;> rfl
  rw [this]
  exact h.dd, h.dp.fall ps⟩
theorem bls_paired {K : PySem.W.Frag} {H : Hp} : ∀ ps : List Bool, Paired (IsD K H) (ps.map V.bl) ps
  | [] => .nil
  | b :: ps => .cons isD_bl (bls_paired ps)
theorem isD_bls {K : PySem.W.Frag} {H : Hp} {p : Addr} {ps : List Bool} (h : SqL K H p (ps.map V.bl)) : IsD K H (.ref p) ps := isD_lst h (bls_paired ps)
section
variable {P : Program} {w : World} {K : PySem.W.Frag} {mg : Str → Option Value} {base : Heap}
theorem arm_C {T : List (Addr × Str)} {k : Nat} {C : Addr} (M : Mth P w K mg base CX0 k C "arm" P_Disk_arm (spArm K T C)) : Mth P w K mg base CX0 k C "arm" P_Disk_arm (fun vs H Q _ => ∃ (a pp : Addr) (i : Int) (D : Dsk) (ps : List Bool) (H0 : Hp) (F0 : Foot) (As : List Thing), vs = [.ref a, .int i, .ref pp] ∧ St T H0 F0 (diskT K C a D :: As) H ∧ H pp = some (.lst (ps.map V.bl)) ∧
    ∀ H', St T H0 F0 (diskT K C a (D.arm i ps) :: As) H' → SmT H H' → Q .non H') := M.imp fun vs H Q E h => by
  obtain ⟨a, pp, i, D, ps, H0, F0, As, rfl, st, hp, k⟩ := h
  obtain ⟨F1, hF, back⟩ := st.step (Cs := [diskT K C a D]) (Ds := As) (.refl _)
  exact ⟨a, pp, i, D, ps, F1, rfl, hF, st.tabs, hp, fun H' s => k H' (back s).1 (back s).2⟩
theorem again_C {T : List (Addr × Str)} {k : Nat} {C : Addr} (M : Mth P w K mg base CX0 k C "again" P_Disk_again (spAgain K T C)) : Mth P w K mg base CX0 k C "again" P_Disk_again (fun vs H Q _ => ∃ (a : Addr) (D : Dsk) (H0 : Hp) (F0 : Foot) (As : List Thing), vs = [.ref a] ∧ St T H0 F0 (diskT K C a D :: As) H ∧
    ∀ H', St T H0 F0 (diskT K C a D.again :: As) H' → SmT H H' → Q .non H') := M.imp fun vs H Q E h => by
  obtain ⟨a, D, H0, F0, As, rfl, st, k⟩ := h
  obtain ⟨F1, hF, back⟩ := st.step (Cs := [diskT K C a D]) (Ds := As) (.refl _)
  exact ⟨a, D, F1, rfl, hF, st.tabs, fun H' s => k H' (back s).1 (back s).2⟩
theorem stop_C {T : List (Addr × Str)} {k : Nat} {C : Addr} (M : Mth P w K mg base CX0 k C "stop" P_Disk_stop (spStop K T C)) : Mth P w K mg base CX0 k C "stop" P_Disk_stop (fun vs H Q _ => ∃ (a pp : Addr) (D : Dsk) (ps : List Bool) (H0 : Hp) (F0 : Foot) (As : List Thing), vs = [.ref a, .ref pp] ∧ St T H0 F0 (diskT K C a D :: lstT pp (ps.map V.bl) :: As) H ∧ DskOk D ∧
    ∀ H', St T H0 F0 (diskT K C a (D.stop ps) :: lstT pp (ps.map V.bl) :: As) H' → SmT H H' → Q .non H') := M.imp fun vs H Q E h => by
  obtain ⟨a, pp, D, ps, H0, F0, As, rfl, st, ok, k⟩ := h
  have hp := st.lst2
  have st0 := st
  obtain ⟨⟨F, ⟨F1, F2, a1, ⟨F3, F4, a2, _, _, e2⟩, d, _⟩, _⟩, _⟩ := st
  obtain ⟨G1, hG, back⟩ := st0.step (Cs := [diskT K C a D]) (Ds := lstT pp (ps.map V.bl) :: As) (.refl _)
  refine ⟨a, pp, D, ps, G1, rfl, hG, st0.tabs, ok, hp, fun z => ?_, fun H' s => k H' (back s).1 (back s).2⟩
  -- the same disk, the same objects
  obtain ⟨s1, n1, w1, p1, hA1, e1⟩ := a1
  obtain ⟨s3, n3, w3, p3, hA3, e3⟩ := hG.one
  obtain ⟨dx, i1⟩ := hA1.ins
  obtain ⟨dx3, i3⟩ := hA3.ins
  rw [i1] at i3
  have i2 := Option.some.inj i3
  unfold dflds at i2
  injection i2 with _ _ i4
  simp only [List.cons.injEq, Prod.mk.injEq, V.ref.injEq, true_and, and_true] at i4
  obtain ⟨rfl, rfl, rfl, _, _, rfl⟩ := i4
  exact d pp ((e1 pp).mpr ((e3 pp).mp z)) ((e2 pp).mpr (.inl ((a2.2 pp).mpr rfl)))
abbrev s__law_arms : Stmt := top 35
abbrev N__law_arms : List Str := ["_law_box", "_law_disk", "_law_own", "_law_picks", "_law_k", "_law_handed", "_law_way", "_law_many", "_law_good"]
abbrev P__law_arms : List Str := ["_law_box", "_law_disk", "_law_own"]
theorem sc__law_arms : FnScope N__law_arms P__law_arms (defScope s__law_arms) := ⟨rfl, rfl, rfl, by decide +kernel, rfl, by decide +kernel, by decide +kernel⟩
def spArms (K : PySem.W.Frag) (T : List (Addr × Str)) (C : Addr) : Sp := fun vs H Q _ => ∃ (b a o : Addr) (D : Dsk) (O : Own) (H0 : Hp) (F0 : Foot) (As : List Thing), vs = [.ref b, .ref a, .ref o] ∧ St T H0 F0 (boxT b :: diskT K C a D :: ownT K o O :: As) H ∧ Both D O ∧
  ∀ H' D' O', St T H0 F0 (boxT b :: diskT K C a D' :: ownT K o O' :: As) H' → Both D' O' → O'.pending.length ≤ O.pending.length → Q (.bl true) H'
theorem ok_arms {Ts : List (Addr × Str)} {C : Addr} (Tx : Txt mg) (D0 : Df K mg "_law_arms" s__law_arms P__law_arms) (C_Disk : DiskC K mg C) (G__law_take : Fn P w K mg base CX0 1 "_law_take" P__law_take (spDraw Ts)) (G__law_fall : Fn P w K mg base CX0 1 "_law_fall" P__law_fall (spFall K Ts))
    (M_arm : Mth P w K mg base CX0 1 C "arm" P_Disk_arm (spArm K Ts C)) (M_stop : Mth P w K mg base CX0 1 C "stop" P_Disk_stop (spStop K Ts C)) (M_again : Mth P w K mg base CX0 1 C "again" P_Disk_again (spAgain K Ts C)) : Fn P w K mg base CX0 2 "_law_arms" P__law_arms (spArms K Ts C) := by
  have M_Disk_arm := arm_C M_arm
  have M_Disk_stop := stop_C M_stop
  have M_Disk_again := again_C M_again
  refine D0.ok sc__law_arms (fun vs H Q E h => ?_) (fun f cdv A outer s H vs Q E hr h => ?_)
  · obtain ⟨b, a, o, D, O, H0, F0, As, rfl, _⟩ := h
    rfl
  · obtain ⟨b, a, o, D, O, H0, F0, As, rfl, st, bo, k⟩ := h
    have nd := sc__law_arms.nd
    have T := Tx
    refine ⟨_, (pss_cons (ps_setLc (i := 3) (own := [("_law_k", 4)]) (g := gName 4) (by rfl) nd rfl rfl (sw_true rfl rfl rfl (by decide +kernel)) (pi_range1 (by rfl) T.b_range (pa_cons (pe_c G__law_take (hr.mono (by decide)) pass0 (pa_cons (pv 0) (pa_cons (pe_ix ix_list (pe_lst (pa_cons pe_int (pa_cons pe_int (pa_cons pe_int pa_nil)))) (pe_c G__law_take (hr.mono (by decide)) pass0 (pa_cons (pv 0) (pa_cons pe_int pa_nil))) (fun _ _ => rfl)) pa_nil))) pa_nil)) (blkOk_by (own := [("_law_k", 4)]) (N := N__law_arms) (sc := defScope s__law_arms) (by decide +kernel)) (fun _ _ _ _ _ => pg_name (i := 4) nd rfl (Or.inl rfl)) (fun _ _ _ _ _ => pts_nil) (fun _ _ _ _ _ => (pe_cmpR op_eq (pe_c G__law_take (hr.mono (by decide)) pass0 (pa_cons (pv 0) (pa_cons pe_int pa_nil))) pe_int (nomark _))))
  (pss_cons (ps_set (i := 5) nd rfl (by first | exact Or.inl rfl | exact Or.inr rfl) (pe_callTy call_list_of (by rfl) T.b_list (by decide +kernel) (pa_cons (pv 3) pa_nil)))
  (pss_cons (ps_set (i := 6) nd rfl (by first | exact Or.inl rfl | exact Or.inr rfl) (pe_c G__law_take (hr.mono (by decide)) pass0 (pa_cons (pv 0) (pa_cons pe_int pa_nil))))
  (Evl.pss_cut (ps_if (pt_cmpR op_lt (pv 6) pe_int (nomark _))
  (pss_cons (ps_set (i := 7) nd rfl (by first | exact Or.inl rfl | exact Or.inr rfl) (pe_c G__law_take (hr.mono (by decide)) pass0 (pa_cons (pv 0) (pa_cons (pe_ix ix_list (pe_lst (pa_cons pe_int (pa_cons (pe_ix ix_list (pe_lst (pa_cons pe_int (pa_cons pe_int (pa_cons pe_int pa_nil)))) (pe_c G__law_take (hr.mono (by decide)) pass0 (pa_cons (pv 0) (pa_cons pe_int pa_nil))) (fun _ _ => rfl)) pa_nil))) (pv 6) (fun _ _ => rfl)) pa_nil))))
  (pss_cons (ps_if (pt_not (pt_val (pe_dget (hu_of hr) (pv 2) pe_str (fun _ _ => rfl))))
  (pss_cons (ps_dput (hu_of hr) (pv 2) pe_str (pv 7) rfl)
  (pss_one (ps_dput (hu_of hr) (pv 2) pe_str (pv 3) rfl)))
  pss_nil)
  (pss_one (ps_expr (pe_m (pv 1) C_Disk.cl M_Disk_arm (hr.mono (by decide)) pass0 (pa_cons (pv 7) (pa_cons (pv 5) pa_nil)))))))
  (pss_one (ps_if (pt_cmpR op_eq (pv 6) pe_int (nomark _))
  (pss_cons (ps_expr (pe_c G__law_fall (hr.mono (by decide)) pass0 (pa_cons (pv 2) (pa_cons (pv 3) pa_nil))))
  (pss_one (ps_expr (pe_m (pv 1) C_Disk.cl M_Disk_stop (hr.mono (by decide)) pass0 (pa_cons (pv 5) pa_nil)))))
  (pss_cons (ps_expr (pe_bm PySem.F.plainAttrs_dict PySem.F.slot_dict_update PySem.F.type_dict_update (mt_updateP rfl) (pv 2) (pa_cons (pe_lst (pa_cons (pe_tup (pa_cons pe_str (pa_cons (pe_lst pa_nil) pa_nil))) (pa_cons (pe_tup (pa_cons pe_str (pa_cons pe_non pa_nil))) (pa_cons (pe_tup (pa_cons pe_str (pa_cons (pe_lst pa_nil) pa_nil))) (pa_cons (pe_tup (pa_cons pe_str (pa_cons pe_bl pa_nil))) pa_nil))))) pa_nil)))
  (pss_one (ps_expr (pe_m0 (pv 1) C_Disk.cl M_Disk_again (hr.mono (by decide)) pass0)))))))
  (pss_cons (ps_set (i := 8) nd rfl (by first | exact Or.inl rfl | exact Or.inr rfl) (pe_cmpR (op_eqM (α := List Bool) hr.units (by decide)) (pv 5) (pv 3) (nomark _)))
  (pss_cons (ps_expr (pe_bm PySem.F.plainAttrs_list PySem.F.slot_list_append PySem.F.type_list_append mt_append (pv 5) (pa_cons pe_bl pa_nil)))
  (pss_one (ps_ret (pv 8))))))))), ?_⟩
    refine ⟨_, rfl, (by show 3 ≤ sizeLine; decide), fun q1 nq1 => ?_⟩
    have st1 := st.new2 (xs := [9, 9, 120].map V.int) nq1
    refine ⟨_, rfl, b, 3, rfl, H0, F0, _, st1, by decide, by decide, fun H2 x1 st2 sm2 x10 x11 => ?_⟩
    obtain ⟨y1, hy1, ya1⟩ := pickZ (zs := [9, 9, 120]) x10 x11
    have yb : 0 < y1 ∧ y1 ≤ 120 := by
      simp only [List.mem_cons, List.not_mem_nil, or_false] at hy1
      omega
    refine ⟨q1, _, x1, _, rfl, rfl, SqL.of st2.lst2, ya1, b, y1, rfl, H0, F0, _, st2.del2, yb.1, by omega, fun H3 n st3 sm3 n0 n1 => ⟨_, rfl, by omega, by omega, fun pk npk => ?_⟩⟩
    refine lc_all (walk_range (lo := 0)) (fun m H' => ∃ bs : List Bool, St Ts H0 F0 (boxT b :: lstT pk (bs.map V.bl) :: diskT K C a D :: ownT K o O :: As) H' ∧ bs.length = m) ⟨[], st3.new2 npk, rfl⟩ (fun _ _ _ _ => True.intro) ?_ ?_
    · rintro m x H4 H4' hm ⟨bs, st4, hlen⟩ ⟨rfl, rfl⟩
      refine ⟨_, rfl, b, 2, rfl, H0, F0, _, st4, by decide, by decide, fun H5 z st5 sm5 z0 z1 => ⟨rfl, _, st5.lst2, ?_, bs ++ [decide (V.int z = V.int 0)], ?_, ?_⟩⟩
      · rw [List.length_map, sizeLine_eq]
        omega
      · have := st5.put2 (ys := (bs ++ [decide (V.int z = V.int 0)]).map V.bl)
        rw [List.map_append] at this ⊢
        exact this
      · rw [List.length_append, hlen]
        rfl
    rintro H4 ⟨bs, st4, hlen⟩
    have lbs : bs.length ≤ 120 := by omega
    refine ⟨_, rfl, pk, _, rfl, .inl (SqL.of st4.lst2), fun hd nhd => ?_⟩
    have st5 := st4.new2 (xs := bs.map V.bl) nhd
    refine ⟨_, rfl, b, 4, rfl, H0, F0, _, st5, by decide, by decide, fun H6 way st6 sm6 w0 w1 => ?_⟩
    refine ⟨fun σ H9 => ∃ v4 v7 v8 D' O', σ = [some (.ref b), some (.ref a), some (.ref o), some (.ref pk), v4, some (.ref hd), some (.int way), v7, v8] ∧ Both D' O' ∧ O'.pending.length ≤ O.pending.length ∧ H9 pk = some (.lst (bs.map V.bl)) ∧ St Ts H0 F0 (lstT hd (bs.map V.bl) :: boxT b :: diskT K C a D' :: ownT K o O' :: As) H9, ?_, ?_⟩
    · refine ⟨_, rfl, _, _, rfl, rfl, _, rfl, ?_⟩
      refine ite2 (fun c => ?_) (fun c => ?_)
      · have c' : way < 2 := of_decide_eq_true c
        refine ⟨_, rfl, (by show 3 ≤ sizeLine; decide), fun q3 nq3 => ?_⟩
        have st7 := st6.new2 (xs := [20, 20, 200].map V.int) nq3
        refine ⟨_, rfl, b, 3, rfl, H0, F0, _, st7, by decide, by decide, fun H8 x2 st8 sm8 x20 x21 => ?_⟩
        obtain ⟨y2, hy2, ya2⟩ := pickZ (zs := [20, 20, 200]) x20 x21
        refine ⟨q3, _, x2, _, rfl, rfl, SqL.of st8.lst2, ya2, (by show 2 ≤ sizeLine; decide), fun q4 nq4 => ?_⟩
        have st9 := st8.del2.new2 (xs := [3, y2].map V.int) nq4
        obtain ⟨y3, hy3, ya3⟩ := pickZ (zs := [3, y2]) (v := way) w0 c'
        have y3b : 0 < y3 ∧ y3 ≤ 200 := by
          simp only [List.mem_cons, List.not_mem_nil, or_false] at hy2 hy3
          omega
        refine ⟨_, rfl, q4, _, way, _, rfl, rfl, SqL.of st9.lst2, ya3, b, y3, rfl, H0, F0, _, st9.del2, y3b.1, by omega, fun H10 many st10 sm10 m0 m1 => ?_⟩
        have st11 : St Ts H0 F0 (ownT K o O :: lstT pk (bs.map V.bl) :: lstT hd (bs.map V.bl) :: boxT b :: diskT K C a D :: As) H10 := St.ord [boxT b, lstT hd (bs.map V.bl), lstT pk (bs.map V.bl), diskT K C a D, ownT K o O] st10 [4, 2, 1, 0, 3] rfl
        obtain ⟨s', q', p', hA, nk, mv⟩ := st11.ownTake
        obtain ⟨hdc, ⟨xs, hs, is⟩, ⟨ys, hq, iq⟩, hp, ap⟩ := id hA
        obtain ⟨so, qo, po⟩ := hA.apart
        refine ⟨_, rfl, o, _, rfl, og_f hdc, _, rfl, ?_⟩
        refine ite2 (fun c2 => ?_) (fun c2 => ?_)
        · have ff : O.fallen = false := by simpa using c2
          refine ⟨_, rfl, _, rfl, o, _, rfl, op_l hdc, ?_⟩
          have sm11 : SmT H10 (L2.upd H10 o (.dK (okvs (.ref s') (.ref q') (.int many) (.ref p') (.bl O.fallen)))) := SmT.put hdc .dK
          refine ⟨_, rfl, _, rfl, o, _, rfl, op_p upd_same, ?_⟩
          have sm12 : SmT (L2.upd H10 o (.dK (okvs (.ref s') (.ref q') (.int many) (.ref p') (.bl O.fallen)))) (L2.upd (L2.upd H10 o (.dK (okvs (.ref s') (.ref q') (.int many) (.ref p') (.bl O.fallen)))) o (.dK (okvs (.ref s') (.ref q') (.int many) (.ref pk) (.bl O.fallen)))) := SmT.put upd_same .dK
          have sm' := sm11.trans sm12
          have old : ∀ {r u}, r ≠ o → H10 r = some u → (L2.upd (L2.upd H10 o (.dK (okvs (.ref s') (.ref q') (.int many) (.ref p') (.bl O.fallen)))) o (.dK (okvs (.ref s') (.ref q') (.int many) (.ref pk) (.bl O.fallen)))) r = some u := fun {r u} nr e => (upd_ne nr).trans ((upd_ne nr).trans e)
          obtain ⟨st12, _⟩ := mv (O' := { O with left := some many, picks := bs }) ⟨upd_same, ⟨xs, old so hs, is.keep sm'⟩, ⟨ys, old qo hq, iq.keep sm'⟩, old nk.1 st11.lst2, ⟨ap.1, nk.2.1.symm, nk.2.2.symm⟩⟩ fun r u nr e => old nr e
          have st13 : St Ts H0 F0 (diskT K C a D :: lstT hd (bs.map V.bl) :: ownPT K o pk { O with left := some many, picks := bs } :: boxT b :: As) _ := St.ord [ownPT K o pk { O with left := some many, picks := bs }, lstT hd (bs.map V.bl), boxT b, diskT K C a D] st12 [3, 1, 0, 2] rfl
          obtain ⟨s3, n3, w3, p3, hA3, _⟩ := st13.disk
          obtain ⟨dx, hi3⟩ := hA3.ins
          refine ⟨_, rfl, a, dx, _, rfl, hi3, dn_arm, _, rfl, _, rfl, a, hd, many, D, bs, H0, F0, _, rfl, st13, st13.lst2, fun H14 st14 sm14 => ?_⟩
          have st15 : St Ts H0 F0 (ownPT K o pk { O with left := some many, picks := bs } :: lstT hd (bs.map V.bl) :: boxT b :: diskT K C a (D.arm many bs) :: As) H14 := St.ord [diskT K C a (D.arm many bs), lstT hd (bs.map V.bl), ownPT K o pk { O with left := some many, picks := bs }, boxT b] st14 [2, 1, 3, 0] rfl
          have rr := bo.r.arm ff many bs
          have hrun : D.running = true := by rw [bo.r.run, ff]; rfl
          have ea : D.arm many bs = { D with deeds := some many, picks := bs } := by
            unfold Dsk.arm
            rw [if_pos hrun]
          refine ⟨_, _, _, D.arm many bs, { O with left := some many, picks := bs }, rfl, ⟨rr, ?_, ⟨bo.oo.ls, bo.oo.lw, bo.oo.few, by show bs.length ≤ 1000; omega, fun i hi => by
            cases hi
            omega⟩, ?_, bo.dp⟩, Nat.le_refl _, st15.ownP, St.ord [ownT K o { O with left := some many, picks := bs }, lstT hd (bs.map V.bl), boxT b, diskT K C a (D.arm many bs)] st15.ownSee [1, 2, 3, 0] rfl⟩
          · rw [ea]
            exact ⟨bo.od.ls, bo.od.ln, bo.od.lw, bo.od.few, by show bs.length ≤ 5000; omega⟩
          · rw [ea]
            intro i hi
            cases hi
            omega
        · have ff : O.fallen = true := by simpa using c2
          have st13 : St Ts H0 F0 (diskT K C a D :: lstT hd (bs.map V.bl) :: lstT pk (bs.map V.bl) :: ownT K o O :: boxT b :: As) _ := St.ord [boxT b, lstT hd (bs.map V.bl), lstT pk (bs.map V.bl), diskT K C a D, ownT K o O] st10 [3, 1, 2, 4, 0] rfl
          obtain ⟨s3, n3, w3, p3, hA3, _⟩ := st13.disk
          obtain ⟨dx, hi3⟩ := hA3.ins
          refine ⟨_, rfl, a, dx, _, rfl, hi3, dn_arm, _, rfl, _, rfl, a, hd, many, D, bs, H0, F0, _, rfl, st13, st13.lst2, fun H14 st14 sm14 => ?_⟩
          rw [arm_no bo.r ff] at st14
          exact ⟨_, _, _, D, O, rfl, bo, Nat.le_refl _, st14.lst3, St.del (St.ord [diskT K C a D, lstT hd (bs.map V.bl), lstT pk (bs.map V.bl), ownT K o O, boxT b] st14 [2, 1, 4, 0, 3] rfl)⟩
      · have c' : ¬ way < 2 := fun z => c (decide_eq_true z)
        refine ⟨_, rfl, rfl, _, rfl, ?_⟩
        refine ite2 (fun c2 => ?_) (fun c2 => ?_)
        · have st11 : St Ts H0 F0 (ownT K o O :: lstT pk (bs.map V.bl) :: lstT hd (bs.map V.bl) :: boxT b :: diskT K C a D :: As) H6 := St.ord [boxT b, lstT hd (bs.map V.bl), lstT pk (bs.map V.bl), diskT K C a D, ownT K o O] st6 [4, 2, 1, 0, 3] rfl
          refine ⟨_, rfl, _, rfl, o, pk, O, bs, H0, F0, _, rfl, st11, bo.oo, by omega, fun H12 st12 sm12 => ?_⟩
          have st13 : St Ts H0 F0 (diskT K C a D :: lstT hd (bs.map V.bl) :: lstT pk (bs.map V.bl) :: ownT K o (O.fall bs) :: boxT b :: As) H12 := St.ord [ownT K o (O.fall bs), lstT pk (bs.map V.bl), lstT hd (bs.map V.bl), boxT b, diskT K C a D] st12 [4, 2, 1, 0, 3] rfl
          obtain ⟨s3, n3, w3, p3, hA3, _⟩ := st13.disk
          obtain ⟨dx, hi3⟩ := hA3.ins
          refine ⟨_, rfl, a, dx, _, rfl, hi3, dn_stop, _, rfl, a, hd, D, bs, H0, F0, _, rfl, st13, bo.od, fun H14 st14 sm14 => ?_⟩
          exact ⟨_, _, _, D.stop bs, O.fall bs, rfl, bo.fall bs, Nat.zero_le _, st14.lst3, St.del (St.ord [diskT K C a (D.stop bs), lstT hd (bs.map V.bl), lstT pk (bs.map V.bl), ownT K o (O.fall bs), boxT b] st14 [2, 1, 4, 0, 3] rfl)⟩
        · have st11 : St Ts H0 F0 (ownT K o O :: lstT pk (bs.map V.bl) :: lstT hd (bs.map V.bl) :: boxT b :: diskT K C a D :: As) H6 := St.ord [boxT b, lstT hd (bs.map V.bl), lstT pk (bs.map V.bl), diskT K C a D, ownT K o O] st6 [4, 2, 1, 0, 3] rfl
          obtain ⟨s', q', p', hA, mv⟩ := st11.own
          obtain ⟨hdc, ⟨xs, hs, is⟩, ⟨ys, hq, iq⟩, hp, ap⟩ := id hA
          obtain ⟨so, qo, po⟩ := hA.apart
          refine ⟨_, rfl, .inr (.inr (.inl ⟨rfl, .inl ⟨_, hdc⟩⟩)), ?_⟩
          refine ⟨Nat.zero_le _, fun e1 ne1 => ?_⟩
          have s1 := Same.upd (o := .lst []) ne1
          refine ⟨(by show 2 ≤ sizeLine; decide), fun t1 nt1 => ?_⟩
          have s2 := Same.upd (o := .tup [.str "pending", .ref e1]) nt1
          refine ⟨(by show 2 ≤ sizeLine; decide), fun t2 nt2 => ?_⟩
          have s3 := Same.upd (o := .tup [.str "left", .non]) nt2
          refine ⟨Nat.zero_le _, fun e3 ne3 => ?_⟩
          have s4 := Same.upd (o := .lst []) ne3
          refine ⟨(by show 2 ≤ sizeLine; decide), fun t3 nt3 => ?_⟩
          have s5 := Same.upd (o := .tup [.str "picks", .ref e3]) nt3
          refine ⟨(by show 2 ≤ sizeLine; decide), fun t4 nt4 => ?_⟩
          have s6 := Same.upd (o := .tup [.str "fallen", .bl false]) nt4
          refine ⟨(by show 4 ≤ sizeLine; decide), fun l nl => ?_⟩
          have s7 := Same.upd (o := .lst ([t1, t2, t3, t4].map V.ref)) nl
          have ht1 := s7 _ _ (s6 _ _ (s5 _ _ (s4 _ _ (s3 _ _ (upd_same (a := t1) (o := .tup [.str "pending", .ref e1]))))))
          have ht2 := s7 _ _ (s6 _ _ (s5 _ _ (s4 _ _ (upd_same (a := t2) (o := .tup [.str "left", .non])))))
          have ht3 := s7 _ _ (s6 _ _ (upd_same (a := t3) (o := .tup [.str "picks", .ref e3])))
          have ht4 := s7 _ _ (upd_same (a := t4) (o := .tup [.str "fallen", .bl false]))
          have he1 := s7 _ _ (s6 _ _ (s5 _ _ (s4 _ _ (s3 _ _ (s2 _ _ (upd_same (a := e1) (o := .lst [])))))))
          have he3 := s7 _ _ (s6 _ _ (s5 _ _ (upd_same (a := e3) (o := .lst []))))
          have sall := ((((((s1.trans s2).trans s3).trans s4).trans s5).trans s6).trans s7)
          have e13 : e1 ≠ e3 := none_ne (s3 _ _ (s2 _ _ (upd_same (a := e1) (o := .lst [])))) ne3
          have f3 : H6 e3 = none := by
            cases e : H6 e3 with
            | none => rfl
            | some u =>
              rw [s3 _ _ (s2 _ _ (s1 _ _ e))] at ne3
              cases ne3
          refine ⟨o, l, _, [(.inr "pending", .ref e1), (.inr "left", .non), (.inr "picks", .ref e3), (.inr "fallen", .bl false)], [t1, t2, t3, t4], rfl, rfl, sall _ _ hdc, upd_same, rfl, fun i t kv ht hkv => ?_, (by show 5 + 4 ≤ 1000; decide), ?_⟩
          · match i, ht, hkv with
            | 0, ht, hkv =>
              cases ht
              cases hkv
              exact ht1
            | 1, ht, hkv =>
              cases ht
              cases hkv
              exact ht2
            | 2, ht, hkv =>
              cases ht
              cases hkv
              exact ht3
            | 3, ht, hkv =>
              cases ht
              cases hkv
              exact ht4
            | n + 4, ht, _ => cases ht
          rw [show mergeK (okvs (.ref s') (.ref q') (deedV O.left) (.ref p') (.bl O.fallen)) [((.inr "pending" : Key), V.ref e1), (.inr "left", .non), (.inr "picks", .ref e3), (.inr "fallen", .bl false)] = okvs (.ref s') (.ref e1) .non (.ref e3) (.bl false) from by kernel_rfl]
          have smu : SmT _ (L2.upd _ o (.dK (okvs (.ref s') (.ref e1) .non (.ref e3) (.bl false)))) := SmT.put (sall _ _ hdc) .dK
          have e1o : e1 ≠ o := lst_dK he1 (sall _ _ hdc)
          have e3o : e3 ≠ o := lst_dK he3 (sall _ _ hdc)
          obtain ⟨st12, _⟩ := mv (O' := O.again) (s' := s') (q' := e1) (p' := e3) ⟨upd_same, ⟨xs, (upd_ne so).trans (sall _ _ hs), (is.same sall).keep smu⟩, ⟨[], (upd_ne e1o).trans he1, .nil⟩, (upd_ne e3o).trans he3, ⟨none_ne hs ne1, none_ne hs f3, e13⟩⟩ (fun r f => by
            rcases f with f | f | f | f
            · exact .inl (.inl f)
            · exact .inl (.inr (.inl f))
            · exact .inr (f ▸ ne1)
            · exact .inr (f ▸ f3)) fun r u f e => (upd_ne fun z => f (.inl z)).trans (sall _ _ e)
          have st13 : St Ts H0 F0 (diskT K C a D :: lstT hd (bs.map V.bl) :: lstT pk (bs.map V.bl) :: ownT K o O.again :: boxT b :: As) _ := St.ord [ownT K o O.again, lstT pk (bs.map V.bl), lstT hd (bs.map V.bl), boxT b, diskT K C a D] st12 [4, 2, 1, 0, 3] rfl
          obtain ⟨s8, n8, w8, p8, hA8, _⟩ := st13.disk
          obtain ⟨dx, hi8⟩ := hA8.ins
          refine ⟨_, rfl, a, dx, _, rfl, hi8, dn_again, a, D, H0, F0, _, rfl, st13, fun H14 st14 sm14 => ?_⟩
          refine ⟨_, _, _, D.again, O.again, rfl, ⟨bo.r.again, ⟨bo.od.ls, bo.od.ls, (fun q hq => nomatch hq), Nat.zero_le _, Nat.zero_le _⟩, ⟨bo.oo.ls, (fun q hq => nomatch hq), (by show 0 < 400; decide), Nat.zero_le _, (fun i hi => by cases hi)⟩, (fun i hi => by cases hi), bo.dp.1, (fun q hq => nomatch hq)⟩, Nat.zero_le _, st14.lst3, St.del (St.ord [diskT K C a D.again, lstT hd (bs.map V.bl), lstT pk (bs.map V.bl), ownT K o O.again, boxT b] st14 [2, 1, 4, 0, 3] rfl)⟩
    · rintro σ H9 ⟨v4, v7, v8, D', O', rfl, bo', hle, hpk, st9⟩
      have hhd := st9.lst
      refine ⟨_, rfl, _, rfl, bs, bs, isD_bls (SqL.of hhd), isD_bls (SqL.of hpk), ?_⟩
      refine ⟨_, rfl, .inl ⟨rfl, _, SqL.of hhd⟩, hd, _, _, rfl, rfl, hhd, by rw [List.length_map, sizeLine_eq]; omega, ?_⟩
      refine ⟨_, rfl, ?_⟩
      have e : (if false = true then !decide (bs = bs) else decide (bs = bs)) = true := by
        rw [if_neg (by decide), decide_eq_true rfl]
      rw [e]
      exact k _ D' O' (st9.put (ys := bs.map V.bl ++ [.bl true])).del bo' hle
end
end K3

set_option Elab.async false
set_option linter.all false
set_option maxRecDepth 100000
set_option maxHeartbeats 4000000
/-! K13G: blocks and read, looked at -/
namespace K3
open PySem PySem.Spec PyProof.Rows L2
mutual
def Dat.toP : Dat → PyData
  | .non => .none
  | .bl b => .bool b
  | .int i => .int i
  | .str z => .str z
  | .tup ds => .tuple (toPs ds)
def toPs : List Dat → List PyData
  | [] => []
  | d :: ds => d.toP :: toPs ds
end
mutual
theorem toP_plain : ∀ d : Dat, d.toP.plain = true
  | .non => by rw [Dat.toP, PyData.plain]
  | .bl b => by rw [Dat.toP, PyData.plain]
  | .int i => by rw [Dat.toP, PyData.plain]
  | .str z => by rw [Dat.toP, PyData.plain]
  | .tup ds => by
    rw [Dat.toP, PyData.plain]
    exact toPs_plain ds
theorem toPs_plain : ∀ ds : List Dat, PyData.plainAll (toPs ds) = true
  | [] => by rw [toPs, PyData.plainAll]
  | d :: ds => by rw [toPs, PyData.plainAll, toP_plain d, toPs_plain ds]; rfl
end
theorem dpAll_at {K : PySem.W.Frag} {H : Hp} : ∀ {ds : List Dat} {xs : List V}, xs.length = ds.length → (∀ (i : Nat) (x : V) (d : Dat), xs[i]? = some x → ds[i]? = some d → Dp K H x d.toP) → DpAll K H xs (toPs ds)
  | [], [], _, _ => by
    rw [toPs]
    exact .nil
  | [], _ :: _, l, _ => by cases l
  | _ :: _, [], l, _ => by cases l
  | d :: ds, x :: xs, l, e => by
    rw [toPs]
    exact .cons (e 0 x d rfl rfl) (dpAll_at (by simpa using l) fun i x d a b => e (i + 1) x d a b)
theorem Is.dp {K : PySem.W.Frag} {H : Hp} {v : V} {d : Dat} (h : Is K H v d) : Dp K H v d.toP := by
  induction h with
  | non =>
    rw [Dat.toP]
    exact .non
  | bl b =>
    rw [Dat.toP]
    exact .bl b
  | int i =>
    rw [Dat.toP]
    exact .int i
  | str z =>
    rw [Dat.toP]
    exact .str z
  | tup h l _ ih =>
    rw [Dat.toP]
    exact .tup h (dpAll_at l ih)
/-- is the list empty? -/
def rEqNil (K : PySem.W.Frag) : R2 := fun x y H Q => ∃ (a b : Addr) (xs : List V) (ds : List Dat), x = .ref a ∧ y = .ref b ∧ SqL K H a xs ∧ Iss K H xs ds ∧ SqL K H b [] ∧ Q (.bl (decide (xs = []))) H
theorem op_eqNil {X : Cx} (hu : X.A.units + 64 < cLine) : OpR X (compareOp .Eq) (rEqNil X.K) := by
  intro pins s σ H x y v u Q I rx ry h
  obtain ⟨a, b, xs, ds, rfl, rfl, h1, is, h2, q⟩ := h
  obtain ⟨as, r1⟩ := Dp.reads I _ _ v (.lst h1 (dpAll_at is.1 fun i x d a b => (is.2 i x d a b).dp)) rx
  obtain ⟨bs, r2⟩ := Dp.reads I _ _ u (.lst h2 .nil) ry
  have d1 : (PyData.list []).depth ≤ 2 := by decide
  refine PySem.SeqAt.eq_plain r1 r2 (by rw [PyData.plain]; exact toPs_plain ds) rfl (by omega) ⟨.bl _, H, I, rfl, ?_⟩
  have e : PyData.eqv (.list (toPs ds)) (.list []) = decide (xs = []) := by
    rw [PyData.eqv]
    have l := is.1
    match xs, ds, l with
    | [], [], _ => rfl
    | x :: xs, d :: ds, _ =>
      rw [toPs]
      rfl
  rw [e]
  exact q
theorem getLastD_cons' {α : Type} (x d : α) (l : List α) : (x :: l).getLastD d = l.getLastD x := by
  cases l <;> rfl
theorem newest_at (b : Nat) : ∀ (l : List (Nat × Dat)) (ss : List Dat), b < ss.length → (l.foldl (fun ss q => ss.set q.1 q.2) ss).getD b .non = ((l.filter fun q => decide (q.1 = b)).map Prod.snd).getLastD (ss.getD b .non)
  | [], ss, _ => rfl
  | q :: l, ss, h => by
    rw [List.foldl_cons, newest_at b l _ (by rw [List.length_set]; exact h)]
    by_cases c : q.1 = b
    · rw [List.filter_cons_of_pos (by exact decide_eq_true c), List.map_cons, getLastD_cons']
      congr 1
      rw [List.getD_eq_getElem?_getD, List.getElem?_set, if_pos c, if_pos (by rw [c]; exact h)]
      rfl
    · rw [List.filter_cons_of_neg (by exact fun z => c (of_decide_eq_true z))]
      congr 1
      rw [List.getD_eq_getElem?_getD, List.getD_eq_getElem?_getD, List.getElem?_set, if_neg c]
section
variable {P : Program} {w : World} {K : PySem.W.Frag} {mg : Str → Option Value} {base : Heap}
abbrev s__law_is : Stmt := top 36
abbrev N__law_is : List Str := ["_law_box", "_law_disk", "_law_own", "_law_again", "_law_found", "_law_far", "_law_blocks", "_law_block", "_law_due", "_law_some", "_law_told_here", "_law_one", "_law_what_here"]
abbrev P__law_is : List Str := ["_law_box", "_law_disk", "_law_own"]
theorem sc__law_is : FnScope N__law_is P__law_is (defScope s__law_is) := ⟨rfl, rfl, rfl, by decide +kernel, rfl, by decide +kernel, by decide +kernel⟩
def spLis (K : PySem.W.Frag) (T : List (Addr × Str)) (C : Addr) : Sp := fun vs H Q _ => ∃ (b a o : Addr) (D : Dsk) (O : Own) (H0 : Hp) (F0 : Foot) (As : List Thing), vs = [.ref b, .ref a, .ref o] ∧ St T H0 F0 (boxT b :: diskT K C a D :: ownT K o O :: As) H ∧ Both D O ∧
  ∀ H', St T H0 F0 (boxT b :: diskT K C a D :: ownT K o O :: As) H' → Q (.bl true) H'
/-- what the told lambda makes of a read -/
def TR (K : PySem.W.Frag) (C a : Addr) (D : Dsk) (y : Int) : Hp → VK → Prop := fun H' Q' => ∃ (F : Foot), Holds [diskT K C a D] H' F ∧
  (¬ (0 ≤ y ∧ y < 600) → ∀ t H'', Same H' H'' → H'' t = some (.tup [.str (cnm 10), .int 0]) → Q' (.ref t) H'') ∧
  (0 ≤ y ∧ y < 600 → D.running = false → ∀ t H'', Same H' H'' → H'' t = some (.tup [.str (cnm 11), .int 0]) → Q' (.ref t) H'') ∧
  (0 ≤ y ∧ y < 600 → D.running = true → ∀ v, Is K H' v (D.newest.getD y.toNat .non) → Q' v H')
theorem ok_lis {Ts : List (Addr × Str)} {cs : Nat → Addr} {C Pt c : Addr} (hm : (Pt, qLam "_law_is" s__law_is) ∈ Ts) (hn : (Ts.map Prod.fst).Nodup) (T0 : Txt mg) (D0 : DfT K mg "_law_is" s__law_is P__law_is c) (TB : LamX.TabB base mg c Pt) (C_Disk : DiskC K mg C)
    (G_told : ∀ b, Fn P w K mg b CX0 5 "_law_told" P__law_told (spTold P w K mg 3 cs b)) (G__law_alike : Fn P w K mg base CX0 9 "_law_alike" P__law_alike (spAlike K 8))
    (G__law_take : Fn P w K mg base CX0 1 "_law_take" P__law_take (spDraw Ts)) (M_Disk_blocks : Mth P w K mg base CX0 1 C "blocks" P_Disk_blocks (spBlocks K C)) (M_read : ∀ b, Mth P w K mg b (L2.CX P w) 2 C "read" P_Disk_read (spRead K C (cs 11) (cs 10))) : Fn P w K mg base CX0 10 "_law_is" P__law_is (spLis K Ts C) := by
  refine D0.ok sc__law_is (fun vs H Q E h => ?_) (fun f A outer s H vs Q E hr h => ?_)
  · obtain ⟨b, a, o, D, O, H0, F0, As, rfl, _⟩ := h
    rfl
  · obtain ⟨b, a, o, D, O, H0, F0, As, rfl, st, bo, k⟩ := h
    have nd := sc__law_is.nd
    have T := T0
    refine ⟨_, (pss_cons (ps_for PassesOwn.never rfl (pi_range1 (by rfl) T.b_range (pa_cons pe_int pa_nil)) (pg_name (i := 3) nd rfl (by first | exact Or.inl rfl | exact Or.inr rfl))
  (pss_cons (ps_set (i := 4) nd rfl (by first | exact Or.inl rfl | exact Or.inr rfl) (pe_m0 (pv 1) C_Disk.cl M_Disk_blocks (hr.mono (by decide)) pass0))
  (pss_cons (ps_if (pt_not (pt_val (pe_c G__law_alike (hr.mono (by decide)) pass0 (pa_cons (pv 4) (pa_cons (pe_dget (hu_of hr) (pv 2) pe_str (fun _ _ => rfl)) pa_nil)))))
  (pss_one (ps_ret pe_bl))
  pss_nil)
  (pss_one (ps_expr (pe_bm0 PySem.F.plainAttrs_list PySem.F.slot_list_clear PySem.F.type_list_clear mt_clear (pv 4)))))))
  (pss_cons (ps_set (i := 5) nd rfl (by first | exact Or.inl rfl | exact Or.inr rfl) (pe_c G__law_take (hr.mono (by decide)) pass0 (pa_cons (pv 0) (pa_cons (pe_op op_pow pe_int pe_int) pa_nil))))
  (pss_cons (ps_set (i := 6) nd rfl (by first | exact Or.inl rfl | exact Or.inr rfl) (pe_lst (pa_cons (pe_c G__law_take (hr.mono (by decide)) pass0 (pa_cons (pv 0) (pa_cons pe_int pa_nil))) (pa_cons (pe_c G__law_take (hr.mono (by decide)) pass0 (pa_cons (pv 0) (pa_cons pe_int pa_nil))) (pa_cons (pe_c G__law_take (hr.mono (by decide)) pass0 (pa_cons (pv 0) (pa_cons pe_int pa_nil))) (pa_cons (pe_op op_add pe_int (pv 5)) (pa_cons (pe_op op_sub (pe_un un_neg pe_int) (pv 5)) (pa_cons (pe_op op_sub (pe_un un_neg pe_int) (pe_c G__law_take (hr.mono (by decide)) pass0 (pa_cons (pv 0) (pa_cons pe_int pa_nil)))) pa_nil))))))))
  (pss_cons (ps_set (i := 7) nd rfl (by first | exact Or.inl rfl | exact Or.inr rfl) (pe_ix ix_list (pv 6) (pe_c G__law_take (hr.mono (by decide)) pass0 (pa_cons (pv 0) (pa_cons pe_int pa_nil))) (fun _ _ => rfl)))
  (pss_cons (ps_set (i := 8) nd rfl (by first | exact Or.inl rfl | exact Or.inr rfl) (pe_tup (pa_cons pe_str (pa_cons pe_int pa_nil))))
  (Evl.pss_cut (ps_if (pt_chain op_le op_lt pe_int (pv 7) pe_int)
  (pss_cons (ps_setLc (i := 9) (own := [("_law_one", 11), ("_law_what_here", 12)]) (by rfl) nd rfl rfl (sw_true rfl rfl rfl (by decide +kernel)) (pi_list (pe_dget (hu_of hr) (pv 2) pe_str (fun _ _ => rfl))) (blkOk_by (own := [("_law_one", 11), ("_law_what_here", 12)]) (N := N__law_is) (sc := defScope s__law_is) (by decide +kernel)) (fun _ _ _ _ _ => (pg_tupK (K := K) (n := 2) rfl (by rfl) (pgs_cons (pg_name (i := 11) nd rfl (by first | exact Or.inl rfl | exact Or.inr rfl)) (pgs_cons (pg_name (i := 12) nd rfl (by first | exact Or.inl rfl | exact Or.inr rfl)) pgs_nil)))) (fun _ _ _ _ _ => pts_one (pt_cmpR op_eq (pv 11) (pv 7) (nomark _))) (fun _ _ _ _ _ => (pv 12)))
  (pss_cons (ps_set (i := 10) nd rfl (by first | exact Or.inl rfl | exact Or.inr rfl) (pe_ifExp (pt_cmpR (op_eqNil hr.units) (pv 9) (pe_lst pa_nil) (nomark _)) (pe_ix ix_list (pe_dget (hu_of hr) (pv 2) pe_str (fun _ _ => rfl)) (pv 7) (fun _ _ => rfl)) (pe_ix ix_list (pv 9) (pe_un un_neg pe_int) (fun _ _ => rfl))))
  (pss_one (ps_set (i := 8) nd rfl (by first | exact Or.inl rfl | exact Or.inr rfl) (pe_ifExp (pt_val (pe_dget (hu_of hr) (pv 2) pe_str (fun _ _ => rfl))) (pe_tup (pa_cons pe_str (pa_cons pe_int pa_nil))) (pv 10))))))
  pss_nil)
  (pss_one (ps_ret (pe_c G__law_alike (hr.mono (by decide)) pass0 (pa_cons (pe_callL (fun b => G_told b) (hr.mono (by decide)) (fun _ => rfl) (pa_cons (pe_lam0 (c := c) (P := Pt) (T := Ts) TB rfl hm (tl_u hn hm) (lamP_by (show lamPB N__law_is (defScope s__law_is) _ [] = true by decide +kernel)).free rfl) pa_nil)) (pa_cons (pv 8) pa_nil))))))))))), ?_⟩
    refine ⟨_, rfl, by decide, by decide, for_it (walk_range (lo := 0)) (fun i σ H' => (∃ v3 v4, σ = [some (.ref b), some (.ref a), some (.ref o), v3, v4, none, none, none, none, none, none, none, none]) ∧ St Ts H0 F0 (boxT b :: diskT K C a D :: ownT K o O :: As) H') ⟨⟨none, none, rfl⟩, st⟩ (fun _ _ _ _ _ => True.intro) ?_ ?_⟩
    · rintro i x σ H1 H1' hi ⟨⟨v3, v4, rfl⟩, st1⟩ ⟨rfl, rfl⟩
      obtain ⟨s3, n3, w3, p3, hA3, _⟩ := st1.swap.disk
      obtain ⟨dx, hi3⟩ := hA3.ins
      obtain ⟨F1, hF1, _⟩ := st1.swap.step (Cs := [diskT K C a D]) (Ds := _) (.refl _)
      refine ⟨_, rfl, a, dx, _, rfl, hi3, dn_blocks, a, D, F1, rfl, hF1, fun H2 p xs s2 np hp is => ?_⟩
      have st2 := st1.new' s2 np hp
      have st2o : St Ts H0 F0 (ownT K o O :: lstT p xs :: boxT b :: diskT K C a D :: As) H2 := St.ord [lstT p xs, boxT b, diskT K C a D, ownT K o O] st2 [3, 0, 1, 2] rfl
      obtain ⟨s', q', p', hA, _⟩ := st2o.own
      obtain ⟨hdc, ⟨zs, hs, izs⟩, ⟨ys, hq, iq⟩, hp', ap⟩ := id hA
      refine ⟨_, rfl, _, rfl, o, _, rfl, og_s hdc, .ref p, .ref s', rfl, 6, by decide, ?_, _, rfl, ?_⟩
      · have is' : Iss K H2 xs O.settled := by
          rw [← bo.r.st]
          exact is
        exact alk_iss (n := 5) bo.dp.1 (by rw [bo.oo.ls]; decide) (SqL.of hp) (SqL.of hs) is' izs
      refine ite2 (fun z => nomatch z) (fun _ => ?_)
      refine ⟨_, rfl, .inl ⟨rfl, _, SqL.of hp⟩, p, xs, rfl, rfl, hp, ⟨_, _, rfl⟩, (st2.put (ys := [])).del⟩
    · rintro σ H1 ⟨⟨v3, v4, rfl⟩, st1⟩
      refine ⟨_, rfl, _, _, rfl, rfl, ⟨by decide, by decide, by decide⟩, b, _, rfl, H0, F0, _, st1, by decide, by decide, fun H2 far st2 sm2 fa0 fa1 => ?_⟩
      refine ⟨_, rfl, b, 3, rfl, H0, F0, _, st2, by decide, by decide, fun H3 x1 st3 sm3 x10 x11 => ?_⟩
      refine ⟨_, rfl, b, 3, rfl, H0, F0, _, st3, by decide, by decide, fun H4 x2 st4 sm4 x20 x21 => ?_⟩
      refine ⟨_, rfl, b, 600, rfl, H0, F0, _, st4, by decide, by decide, fun H5 x3 st5 sm5 x30 x31 => ?_⟩
      refine ⟨_, rfl, _, _, rfl, rfl, ?_⟩
      refine ⟨_, rfl, _, rfl, _, _, rfl, rfl, ?_⟩
      refine ⟨_, rfl, _, rfl, b, 600, rfl, H0, F0, _, st5, by decide, by decide, fun H6 x4 st6 sm6 x40 x41 => ⟨_, _, rfl, rfl, ?_⟩⟩
      refine ⟨(by show 6 ≤ sizeLine; decide), fun q1 nq1 => ?_⟩
      have st7 := st6.new2 (xs := [x1, x2, x3, 600 + far, -1 - far, -1 - x4].map V.int) nq1
      refine ⟨_, rfl, _, rfl, b, 6, rfl, H0, F0, _, st7, by decide, by decide, fun H8 x5 st8 sm8 x50 x51 => ?_⟩
      obtain ⟨y, hy, ya⟩ := pickZ (zs := [x1, x2, x3, 600 + far, -1 - far, -1 - x4]) x50 x51
      have y64 : y.natAbs < 2 ^ 64 := by
        have e18 : (10 : Int) ^ Int.toNat 18 = 1000000000000000000 := by decide
        rw [e18] at fa1
        simp only [List.mem_cons, List.not_mem_nil, or_false] at hy
        omega
      refine ⟨q1, _, x5, _, rfl, rfl, SqL.of st8.lst2, ya, ?_⟩
      have st8 := st8.del2
      refine ⟨(by show 2 ≤ sizeLine; decide), fun t nt => ?_⟩
      have s9 := Same.upd (o := .tup [.str "BadBlock", .int 0]) nt
      have st9 := st8.same s9
      have ht9 : (L2.upd H8 t (.tup [.str "BadBlock", .int 0])) t = some (.tup [.str (cnm 10), .int 0]) := upd_same
      generalize hH9 : L2.upd H8 t (HO.tup [V.str "BadBlock", V.int 0]) = H9 at st9 ht9 ⊢
      refine ⟨fun σ H10 => ∃ v3 v4 v5 v6 v9 v10 v11 v12 due, σ = [some (.ref b), some (.ref a), some (.ref o), v3, v4, v5, v6, some (.int y), some due, v9, v10, v11, v12] ∧ St Ts H0 F0 (boxT b :: diskT K C a D :: ownT K o O :: As) H10 ∧
        ((¬ (0 ≤ y ∧ y < 600) ∧ ∃ t, due = .ref t ∧ H10 t = some (.tup [.str (cnm 10), .int 0])) ∨
         ((0 ≤ y ∧ y < 600) ∧ O.fallen = true ∧ ∃ t, due = .ref t ∧ H10 t = some (.tup [.str (cnm 11), .int 0])) ∨
         ((0 ≤ y ∧ y < 600) ∧ O.fallen = false ∧ Is K H10 due (D.newest.getD y.toNat .non))), ?_, ?_⟩
      · refine ⟨_, rfl, _, _, rfl, rfl, _, rfl, ?_⟩
        refine ite2 (fun c => ?_) (fun c => ?_)
        rotate_left
        · have c' : ¬ 0 ≤ y := fun z => c (decide_eq_true z)
          exact ⟨_, rfl, ite2 (fun z => Bool.noConfusion z) (fun _ => ⟨_, _, _, _, _, _, _, _, _, rfl, st9, .inl ⟨fun z => c' z.1, t, rfl, ht9⟩⟩)⟩
        have y0 : 0 ≤ y := of_decide_eq_true c
        refine ⟨_, _, rfl, rfl, _, rfl, ?_⟩
        refine ite2 (fun c => ?_) (fun c => ?_)
        rotate_left
        · have c' : ¬ y < 600 := fun z => c (decide_eq_true z)
          exact ⟨_, _, _, _, _, _, _, _, _, rfl, st9, .inl ⟨fun z => c' z.2, t, rfl, ht9⟩⟩
        have y6 : y < 600 := of_decide_eq_true c
        obtain ⟨s', q', p', hA, _⟩ := (St.ord [boxT b, diskT K C a D, ownT K o O] st9 [2, 0, 1] rfl : St Ts H0 F0 (ownT K o O :: boxT b :: diskT K C a D :: As) H9).own
        obtain ⟨hdc, ⟨zs, hs, izs⟩, ⟨ys, hq, iq⟩, hp', ap⟩ := id hA
        have lq := iq.1
        rw [List.length_map] at lq
        have few := bo.oo.few
        have yn : ((y.toNat : Nat) : Int) = y := Int.toNat_of_nonneg y0
        refine ⟨_, rfl, o, _, rfl, og_q hdc, q', rfl, ⟨_, SqL.of hq⟩, fun D0 nD => ?_⟩
        refine lc_it (walk_list (xs := ys)) (fun m H' => ∃ us, Same H9 H' ∧ H' D0 = some (.lst us) ∧ Iss K H' us (((O.pending.take m).filter fun q => decide (q.1 = y.toNat)).map Prod.snd)) ⟨[], Same.upd nD, upd_same, .nil⟩ (fun _ _ _ ⟨_, h, _⟩ => h.seq (SqL.of hq)) ?_ ?_
        · rintro m x H11 H11' hm ⟨us, s11, hD, ius⟩ ⟨rfl, e⟩
          obtain ⟨⟨blk, what⟩, hw⟩ : ∃ z, O.pending[m]? = some z := ⟨_, List.getElem?_eq_getElem (by omega)⟩
          have iy := (iq.same s11).2 m x (waitD (blk, what)) e (by rw [List.getElem?_map, hw]; rfl)
          obtain ⟨t1, zz, rfl, ht1, izz⟩ := is_tup iy
          obtain ⟨vb, vw, rfl⟩ : ∃ vb vw, zz = [vb, vw] := by
            have := izz.1
            match zz, this with
            | [vb, vw], _ => exact ⟨vb, vw, rfl⟩
          obtain ⟨hvb, izz2⟩ := izz.uncons
          obtain ⟨hvw, _⟩ := izz2.uncons
          cases hvb
          refine ⟨t1, _, rfl, ht1, rfl, _, _, rfl, _, _, rfl, rfl, rfl, _, rfl, _, rfl, rfl, _, rfl, ?_⟩
          have tk : O.pending.take (m + 1) = O.pending.take m ++ [(blk, what)] := take_moreZ hw
          refine ite2 (fun c2 => ?_) (fun c2 => ?_)
          · have c2' : blk = y.toNat := by
              have z := V.int.inj (of_decide_eq_true c2)
              omega
            refine ⟨_, rfl, us, hD, ?_, us ++ [vw], (fun r u e => (upd_ne fun z => by
              rw [z, nD] at e
              cases e).trans (s11 r u e)), upd_same, ?_⟩
            · have l1 := ius.1
              rw [List.length_map] at l1
              have l2 := List.length_filter_le (fun q : Nat × Dat => decide (q.1 = y.toNat)) (O.pending.take m)
              have l3 := List.length_take_le' m O.pending
              rw [sizeLine_eq]
              omega
            · rw [tk, List.filter_append, List.filter_cons_of_pos (by exact decide_eq_true c2'), List.filter_nil, List.map_append]
              exact (ius.app (Iss.cons hvw .nil)).keep (.put hD .lst)
          · have c2' : ¬ blk = y.toNat := fun z => c2 (decide_eq_true (congrArg V.int (by
              show ((blk : Nat) : Int) = y
              omega)))
            refine ⟨us, s11, hD, ?_⟩
            rw [tk, List.filter_append, List.filter_cons_of_neg (by exact fun z => c2' (of_decide_eq_true z)), List.filter_nil, List.append_nil]
            exact ius
        · rintro H11 ⟨us, s11, hD, ius⟩
          rw [lq, List.take_length] at ius
          refine ⟨_, rfl, Nat.zero_le _, fun l nl => ?_⟩
          have s12 : Same H9 (L2.upd H11 l (.lst [])) := s11.trans (Same.upd nl)
          have hD12 : (L2.upd H11 l (.lst [])) D0 = some (.lst us) := Same.upd nl _ _ hD
          have ius12 := ius.same (Same.upd (o := .lst []) nl)
          have hl12 : (L2.upd H11 l (.lst [])) l = some (.lst []) := upd_same
          generalize hH12 : L2.upd H11 l (HO.lst []) = H12 at s12 hD12 ius12 hl12 ⊢
          have izs12 := izs.same s12
          have lz := bo.oo.ls
          have l600 : y.toNat < O.settled.length := by omega
          have nw : O.fallen = false → D.newest.getD y.toNat .non = ((O.pending.filter fun q => decide (q.1 = y.toNat)).map Prod.snd).getLastD (O.settled.getD y.toNat .non) := fun ff => by
            rw [(bo.r.up ff).2.2.2]
            exact newest_at _ _ _ l600
          refine ⟨D0, l, us, _, rfl, rfl, SqL.of hD12, ius12, SqL.of hl12, _, rfl, ?_⟩
          refine ite2 (fun c2 => ?_) (fun c2 => ?_)
          · have e2 : us = [] := of_decide_eq_true c2
            have e3 : ((O.pending.filter fun q => decide (q.1 = y.toNat)).map Prod.snd) = [] := List.eq_nil_of_length_eq_zero (by rw [← ius12.1, e2]; rfl)
            have hd : O.settled[y.toNat]? = some (O.settled.getD y.toNat .non) := by
              rw [List.getD_eq_getElem?_getD, List.getElem?_eq_getElem l600]
              rfl
            obtain ⟨v, hv, iv⟩ := izs12.to hd
            refine ⟨_, rfl, o, _, rfl, og_s (s12 _ _ hdc), _, rfl, s', zs, y, v, rfl, rfl, SqL.of (s12 _ _ hs), at_of (z := y) (j := y.toNat) yn.symm hv, ?_⟩
            refine ⟨_, rfl, o, _, rfl, og_f (s12 _ _ hdc), _, rfl, ?_⟩
            refine ite2 (fun c3 => ?_) (fun c3 => ?_)
            · refine ⟨(by show 2 ≤ sizeLine; decide), fun t2 nt2 => ?_⟩
              exact ⟨_, _, _, _, _, _, _, _, .ref t2, rfl, (st9.same s12).same (Same.upd nt2), .inr (.inl ⟨⟨y0, y6⟩, c3, t2, rfl, upd_same⟩)⟩
            · have ff : O.fallen = false := Bool.not_eq_true _ |>.mp c3
              refine ⟨_, rfl, _, _, _, _, _, _, _, _, v, rfl, st9.same s12, .inr (.inr ⟨⟨y0, y6⟩, ff, ?_⟩)⟩
              rw [nw ff, e3]
              exact iv
          · have e2 : us ≠ [] := fun z => c2 (decide_eq_true z)
            obtain ⟨us0, v, rfl⟩ : ∃ us0 v, us = us0 ++ [v] := ⟨us.dropLast, us.getLast e2, (List.dropLast_concat_getLast e2).symm⟩
            have iv : Is K H12 v (((O.pending.filter fun q => decide (q.1 = y.toNat)).map Prod.snd).getLastD (O.settled.getD y.toNat .non)) := by
              have hx : (us0 ++ [v])[us0.length]? = some v := by
                rw [List.getElem?_append_right (Nat.le_refl _), Nat.sub_self]
                rfl
              obtain ⟨d, hd, id⟩ := ius12.get hx
              have l1 := ius12.1
              rw [List.length_append] at l1
              have e4 : ((O.pending.filter fun q => decide (q.1 = y.toNat)).map Prod.snd).getLast? = some d := by
                rw [List.getLast?_eq_getElem?, ← l1]
                exact hd
              rw [List.getLastD_eq_getLast?, e4]
              exact id
            refine ⟨_, rfl, _, rfl, D0, _, -1, v, rfl, rfl, SqL.of hD12, atI_last _ _, ?_⟩
            refine ⟨_, rfl, o, _, rfl, og_f (s12 _ _ hdc), _, rfl, ?_⟩
            refine ite2 (fun c3 => ?_) (fun c3 => ?_)
            · refine ⟨(by show 2 ≤ sizeLine; decide), fun t2 nt2 => ?_⟩
              exact ⟨_, _, _, _, _, _, _, _, .ref t2, rfl, (st9.same s12).same (Same.upd nt2), .inr (.inl ⟨⟨y0, y6⟩, c3, t2, rfl, upd_same⟩)⟩
            · have ff : O.fallen = false := Bool.not_eq_true _ |>.mp c3
              refine ⟨_, rfl, _, _, _, _, _, _, _, _, v, rfl, st9.same s12, .inr (.inr ⟨⟨y0, y6⟩, ff, ?_⟩)⟩
              rw [nw ff]
              exact iv
      · rintro σ H10 ⟨v3, v4, v5, v6, v9, v10, v11, v12, due, rfl, st10, cases3⟩
        refine ⟨st10.tabs, fun f1 d1 Ha e1 t1 M1 => fun b' LB => ⟨f1, TR K C a D y, Ha, rfl, ?_, Same.refl _, ?_⟩⟩
        · refine work_of (k := 3) (t := fun E => tMeth C "read" (spRead K C (cs 11) (cs 10)) [] E (tVar 1) (tCons (tVar 7) tNil)) (ps := []) LB M1 (lamP_by (show lamPB N__law_is (defScope s__law_is) _ _ = true by decide +kernel)) (.inl ⟨rfl, fun _ _ _ _ _ _ => rfl⟩) (fun A outer s H E hr2 => pe_m (pv 1) C_Disk.cl (M_read _) (hr2.mono (by decide)) (passes_at (fun σ => passAt (takes_of rfl rfl rfl rfl) σ)) (pa_cons (pv 7) pa_nil)) (fun H' Q' E s' Tt hE => ?_)
          obtain ⟨F, hF, k0, k1, k2⟩ := Tt
          obtain ⟨s3, n3, w3, p3, hA3, _⟩ := hF.one
          obtain ⟨dx, hi3⟩ := hA3.ins
          exact ⟨_, rfl, a, dx, _, rfl, hi3, dn_read, _, rfl, a, y, D, F, rfl, hF, bo.od, y64,
            fun nb => hE _ _ _ ⟨10, 0, by decide, rfl, .inl ⟨by decide, by decide, by decide, rfl, rfl⟩, fun H3 t s3 _ ht => k0 nb t _ s3 ht⟩,
            fun g1 g2 => hE _ _ _ ⟨11, 0, by decide, rfl, .inl ⟨by decide, by decide, by decide, rfl, rfl⟩, fun H3 t s3 _ ht => k1 g1 g2 t _ s3 ht⟩, k2⟩
        · have smA : SmT H10 Ha := .ext e1
          have sta := st10.ext e1 t1
          obtain ⟨F1, hF1, _⟩ := sta.swap.step (Cs := [diskT K C a D]) (Ds := _) (.refl _)
          rcases cases3 with ⟨nb, t, rfl, ht⟩ | ⟨g, cf, t, rfl, ht⟩ | ⟨g, ct, iv⟩
          · refine ⟨F1, hF1, fun _ t' H11 s11 ht' => ?_, fun g => absurd g nb, fun g => absurd g nb⟩
            have hta := s11 _ _ (e1 _ _ ht fun _ z => by cases z)
            exact ⟨_, rfl, .ref t', .ref t, rfl, 1, by decide, alk_two ht' hta, k _ (sta.same s11)⟩
          · refine ⟨F1, hF1, fun nb => absurd g nb, fun _ _ t' H11 s11 ht' => ?_, fun _ hrun => ?_⟩
            · have hta := s11 _ _ (e1 _ _ ht fun _ z => by cases z)
              exact ⟨_, rfl, .ref t', .ref t, rfl, 1, by decide, alk_two ht' hta, k _ (sta.same s11)⟩
            · rw [bo.r.run, cf] at hrun
              cases hrun
          · refine ⟨F1, hF1, fun nb => absurd g nb, fun _ hrun => ?_, fun _ _ v iv' => ?_⟩
            · rw [bo.r.run, ct] at hrun
              cases hrun
            · refine ⟨_, rfl, v, due, rfl, 5, by decide, alk_is ?_ iv' (iv.keep smA), k _ sta⟩
              -- how deep it lies
              have lz := bo.oo.ls
              rw [(bo.r.up ct).2.2.2, newest_at _ _ _ (by omega)]
              cases e5 : ((O.pending.filter fun q => decide (q.1 = y.toNat)).map Prod.snd).getLast? with
              | none =>
                rw [List.getLastD_eq_getLast?, e5]
                show DOk 5 (O.settled.getD y.toNat .non)
                rw [List.getD_eq_getElem?_getD, List.getElem?_eq_getElem (by omega)]
                exact bo.dp.1 _ (List.getElem_mem _)
              | some d =>
                rw [List.getLastD_eq_getLast?, e5]
                have hm5 := List.mem_of_getLast? e5
                obtain ⟨q, hq, rfl⟩ := List.mem_map.mp hm5
                exact bo.dp.2 q (List.mem_filter.mp hq |>.1)
end
end K3

set_option Elab.async false
set_option linter.all false
set_option maxRecDepth 100000
set_option maxHeartbeats 4000000
/-! K13L: the law -/
namespace K3
open PySem PySem.Spec PyProof.Rows L2
def Own.settle (O : Own) : Own := { O with settled := O.pending.foldl (fun ss q => ss.set q.1 q.2) O.settled, pending := [] }
theorem sets_len : ∀ {l : List (Nat × Dat)} {ss : List Dat}, (l.foldl (fun ss q => ss.set q.1 q.2) ss).length = ss.length
  | [], _ => rfl
  | q :: l, ss => by
    rw [List.foldl_cons, sets_len, List.length_set]
theorem sets_all {Pd : Dat → Prop} : ∀ {l : List (Nat × Dat)} {ss : List Dat}, (∀ d ∈ ss, Pd d) → (∀ z ∈ l, Pd z.2) → ∀ d ∈ l.foldl (fun ss q => ss.set q.1 q.2) ss, Pd d
  | [], ss, h, _ => h
  | z :: l, ss, h, g => by
    rw [List.foldl_cons]
    refine sets_all (fun d hd => ?_) (fun y hy => g y (List.mem_cons_of_mem _ hy))
    rcases List.mem_or_eq_of_mem_set hd with hd | hd
    · exact h d hd
    · rw [hd]
      exact g z (List.mem_cons_self ..)
theorem Both.settle {D : Dsk} {O : Own} (h : Both D O) (f : O.fallen = false) : Both D.settle O.settle := by
  obtain ⟨u1, u2, u3, u4⟩ := h.r.up f
  refine ⟨⟨u4, h.r.run, fun _ => ⟨u1, u2, rfl, u4⟩, fun _ => rfl⟩, ⟨h.od.ln, h.od.ln, (fun q hq => nomatch hq), Nat.zero_le _, h.od.lp⟩, ⟨sets_len.trans h.oo.ls, (fun q hq => nomatch hq), (by show 0 < 400; decide), h.oo.lp, h.oo.lft⟩, h.dd, sets_all h.dp.1 h.dp.2, (fun q hq => nomatch hq)⟩
theorem Both.spent {D : Dsk} {O : Own} (h : Both D O) : Both D.spend.1 O.count.1 ∧ D.spend.2 = O.count.2 := by
  obtain ⟨r1, r2⟩ := h.r.count h.oo
  exact ⟨⟨r1, h.od.spend, h.oo.count, spend_deeds h.dd, h.dp.count⟩, r2⟩
theorem both_new : Both dskNew ownNew := ⟨⟨rfl, rfl, fun _ => ⟨rfl, rfl, rfl, rfl⟩, fun _ => rfl⟩, ⟨by decide, by decide, (fun q hq => nomatch hq), Nat.zero_le _, Nat.zero_le _⟩, ⟨by decide, (fun q hq => nomatch hq), (by show 0 < 400; decide), Nat.zero_le _, (fun i hi => nomatch hi)⟩, (fun i hi => nomatch hi), (fun d hd => by
  rw [(List.mem_replicate.mp hd).2]
  exact .non), (fun q hq => nomatch hq)⟩
/-- both sides; m is above what waits -/
def SS (T : List (Addr × Str)) (K : PySem.W.Frag) (C b q t0 t1 a0 o0 a1 o1 : Addr) (m : Nat) (H : Hp) : Prop := ∃ (H0 : Hp) (F0 : Foot) (D0 : Dsk) (O0 : Own) (D1 : Dsk) (O1 : Own),
  St T H0 F0 [boxT b, lstT q [.ref t0, .ref t1], diskT K C a0 D0, ownT K o0 O0, diskT K C a1 D1, ownT K o1 O1] H ∧ H t0 = some (.tup [.ref a0, .ref o0]) ∧ H t1 = some (.tup [.ref a1, .ref o1]) ∧ Both D0 O0 ∧ Both D1 O1 ∧ O0.pending.length ≤ m ∧ O1.pending.length ≤ m
section
variable {T : List (Addr × Str)} {K : PySem.W.Frag} {C b q t0 t1 a0 o0 a1 o1 : Addr} {m : Nat} {H : Hp}
theorem SS.mono {n : Nat} (h : SS T K C b q t0 t1 a0 o0 a1 o1 m H) (l : m ≤ n) : SS T K C b q t0 t1 a0 o0 a1 o1 n H := by
  obtain ⟨H0, F0, D0, O0, D1, O1, st, h0, h1, b0, b1, l0, l1⟩ := h
  exact ⟨H0, F0, D0, O0, D1, O1, st, h0, h1, b0, b1, Nat.le_trans l0 l, Nat.le_trans l1 l⟩
theorem SS.same {H' : Hp} (h : SS T K C b q t0 t1 a0 o0 a1 o1 m H) (s : Same H H') : SS T K C b q t0 t1 a0 o0 a1 o1 m H' := by
  obtain ⟨H0, F0, D0, O0, D1, O1, st, h0, h1, r⟩ := h
  exact ⟨H0, F0, D0, O0, D1, O1, st.same s, s _ _ h0, s _ _ h1, r⟩
theorem SS.tup (h : SS T K C b q t0 t1 a0 o0 a1 o1 m H) : H q = some (.lst [.ref t0, .ref t1]) ∧ H t0 = some (.tup [.ref a0, .ref o0]) ∧ H t1 = some (.tup [.ref a1, .ref o1]) := by
  obtain ⟨H0, F0, D0, O0, D1, O1, st, h0, h1, r⟩ := h
  exact ⟨st.lst2, h0, h1⟩
theorem SS.box (h : SS T K C b q t0 t1 a0 o0 a1 o1 m H) : ∃ H0 F0 As, St T H0 F0 (boxT b :: As) H ∧ ∀ H', St T H0 F0 (boxT b :: As) H' → SmT H H' → SS T K C b q t0 t1 a0 o0 a1 o1 m H' := by
  obtain ⟨H0, F0, D0, O0, D1, O1, st, h0, h1, r⟩ := h
  exact ⟨H0, F0, _, st, fun H' st' sm => ⟨H0, F0, D0, O0, D1, O1, st', sm _ _ h0 (.inl ⟨_, rfl⟩), sm _ _ h1 (.inl ⟨_, rfl⟩), r⟩⟩
/-- one side at a and o; how to go back -/
def Side (T : List (Addr × Str)) (K : PySem.W.Frag) (C b a o : Addr) (m : Nat) (H : Hp) (R : Nat → Hp → Prop) : Prop := ∃ (D : Dsk) (O : Own) (F1 : Foot), St T H F1 [boxT b, diskT K C a D, ownT K o O] H ∧ Both D O ∧ O.pending.length ≤ m ∧
  ∀ H' D' O' n, m ≤ n → St T H F1 [boxT b, diskT K C a D', ownT K o O'] H' → Both D' O' → O'.pending.length ≤ n → R n H'
theorem SS.side0 (h : SS T K C b q t0 t1 a0 o0 a1 o1 m H) : Side T K C b a0 o0 m H (SS T K C b q t0 t1 a0 o0 a1 o1) := by
  obtain ⟨H0, F0, D0, O0, D1, O1, st, h0, h1, b0, b1, l0, l1⟩ := h
  have st2 : St T H0 F0 ([boxT b, diskT K C a0 D0, ownT K o0 O0] ++ [lstT q [.ref t0, .ref t1], diskT K C a1 D1, ownT K o1 O1]) H := st.order [0, 2, 3, 1, 4, 5] rfl
  obtain ⟨F1, hF, back⟩ := st2.step (.refl _)
  refine ⟨D0, O0, F1, .start hF st.tabs, b0, l0, fun H' D' O' n hn st' bo' l' => ?_⟩
  obtain ⟨st3, sm⟩ := back st'
  exact ⟨H0, F0, D', O', D1, O1, st3.order [0, 3, 1, 2, 4, 5] rfl, sm _ _ h0 (.inl ⟨_, rfl⟩), sm _ _ h1 (.inl ⟨_, rfl⟩), bo', b1, l', Nat.le_trans l1 hn⟩
theorem SS.side1 (h : SS T K C b q t0 t1 a0 o0 a1 o1 m H) : Side T K C b a1 o1 m H (SS T K C b q t0 t1 a0 o0 a1 o1) := by
  obtain ⟨H0, F0, D0, O0, D1, O1, st, h0, h1, b0, b1, l0, l1⟩ := h
  have st2 : St T H0 F0 ([boxT b, diskT K C a1 D1, ownT K o1 O1] ++ [lstT q [.ref t0, .ref t1], diskT K C a0 D0, ownT K o0 O0]) H := st.order [0, 4, 5, 1, 2, 3] rfl
  obtain ⟨F1, hF, back⟩ := st2.step (.refl _)
  refine ⟨D1, O1, F1, .start hF st.tabs, b1, l1, fun H' D' O' n hn st' bo' l' => ?_⟩
  obtain ⟨st3, sm⟩ := back st'
  exact ⟨H0, F0, D0, O0, D', O', st3.order [0, 3, 4, 5, 1, 2] rfl, sm _ _ h0 (.inl ⟨_, rfl⟩), sm _ _ h1 (.inl ⟨_, rfl⟩), b0, bo', Nat.le_trans l0 hn, l'⟩
end
theorem St.newDisk {T : List (Addr × Str)} {K : PySem.W.Frag} {C x dx : Addr} {H0 H H' : Hp} {F0 F : Foot} {As : List Thing} (st : St T H0 F0 As H) (nx : H x = none) (nd : H dx = none) (r : (diskT K C x dskNew).R H' F)
    (fr : ∀ q, F q → q = x ∨ (L2.upd (L2.upd H dx (.own x)) x (.ins C dx [])) q = none) (old : ∀ q o, q ≠ x → (L2.upd (L2.upd H dx (.own x)) x (.ins C dx [])) q = some o → H' q = some o) : St T H0 F0 (diskT K C x dskNew :: As) H' ∧ Same H H' := by
  have sm : Same H H' := fun q o e => by
    have n1 : q ≠ x := fun z => by
      rw [z, nx] at e
      cases e
    have n2 : q ≠ dx := fun z => by
      rw [z, nd] at e
      cases e
    exact old q o n1 ((upd_ne n1).trans ((upd_ne n2).trans e))
  refine ⟨st.add sm ⟨F, r, fun q f => ?_⟩, sm⟩
  rcases fr q f with z | z
  · rw [z]
    exact nx
  · cases e : H q with
    | none => rfl
    | some o =>
      have n1 : q ≠ x := fun z => by
        rw [z, nx] at e
        cases e
      have n2 : q ≠ dx := fun z => by
        rw [z, nd] at e
        cases e
      rw [upd_ne n1, upd_ne n2, e] at z
      cases z
abbrev s_law : Stmt := top 37
abbrev N_law : List Str := ["_law_script", "_law_box", "_law_sides", "_law_turn", "_law_way", "_law_disk", "_law_own", "_law_good", "_law_due", "_law_block", "_law_what_here"]
abbrev P_law : List Str := ["_law_script"]
theorem sc_law : FnScope N_law P_law (defScope s_law) := ⟨rfl, rfl, rfl, by decide +kernel, rfl, by decide +kernel, by decide +kernel⟩
/-- the three tables -/
def TL3 (P1 P2 P3 : Addr) : List (Addr × Str) := [(P1, qLam "law" s_law), (P2, qLam "_law_write" s__law_write), (P3, qLam "_law_is" s__law_is)]
theorem tl_m1 {P1 P2 P3 : Addr} : (P1, qLam "law" s_law) ∈ TL3 P1 P2 P3 := List.mem_cons_self
theorem tl_m2 {P1 P2 P3 : Addr} : (P2, qLam "_law_write" s__law_write) ∈ TL3 P1 P2 P3 := List.mem_cons_of_mem _ List.mem_cons_self
theorem tl_m3 {P1 P2 P3 : Addr} : (P3, qLam "_law_is" s__law_is) ∈ TL3 P1 P2 P3 := List.mem_cons_of_mem _ (List.mem_cons_of_mem _ List.mem_cons_self)
theorem tl_in {P1 P2 P3 : Addr} {p : Addr × Str} (h : p ∈ TL3 P1 P2 P3) : p = (P1, qLam "law" s_law) ∨ p = (P2, qLam "_law_write" s__law_write) ∨ p = (P3, qLam "_law_is" s__law_is) := by
  rcases List.mem_cons.mp h with h | h
  · exact .inl h
  · rcases List.mem_cons.mp h with h | h
    · exact .inr (.inl h)
    · rcases List.mem_cons.mp h with h | h
      · exact .inr (.inr h)
      · cases h
section
variable {P : Program} {w : World} {K : PySem.W.Frag} {mg : Str → Option Value} {base : Heap}
/-- settle, what stands beside told as things -/
def spSettleC (K : PySem.W.Frag) (T : List (Addr × Str)) (C CS : Addr) : Sp := fun vs H Q E => ∃ (a : Addr) (D : Dsk) (H0 : Hp) (F0 : Foot) (As : List Thing), vs = [.ref a] ∧ St T H0 F0 (diskT K C a D :: As) H ∧ DskOk D ∧ (∀ i, D.deeds = some i → i.natAbs < 2 ^ 64) ∧
  (D.spend.2 = true → ∀ H', St T H0 F0 (diskT K C a D.spend.1.settle :: As) H' → SmT H H' → Q .non H') ∧ (D.spend.2 = false → ∀ H', St T H0 F0 (diskT K C a D.spend.1 :: As) H' → SmT H H' → E (.ref CS) none H')
theorem settle_C {T : List (Addr × Str)} {k : Nat} {C CS : Addr} (M : Mth P w K mg base (L2.CX P w) k C "settle" P_Disk_settle (spSettle K T C CS)) : Mth P w K mg base (L2.CX P w) k C "settle" P_Disk_settle (spSettleC K T C CS) := M.imp fun vs H Q E h => by
  obtain ⟨a, D, H0, F0, As, rfl, st, ok, h64, k0, k1⟩ := h
  obtain ⟨F1, hF, back⟩ := st.step (Cs := [diskT K C a D]) (Ds := As) (.refl _)
  exact ⟨a, D, F1, rfl, hF, st.tabs, ok, h64, fun t H' s => k0 t H' (back s).1 (back s).2, fun t H' s => k1 t H' (back s).1 (back s).2⟩
/-- what the told lambda makes of a settling -/
def TS (K : PySem.W.Frag) (T : List (Addr × Str)) (C a : Addr) (D : Dsk) : Hp → VK → Prop := fun H' Q' => ∃ (H0 : Hp) (F0 : Foot) (As : List Thing), St T H0 F0 (diskT K C a D :: As) H' ∧
  (D.spend.2 = true → ∀ H'', St T H0 F0 (diskT K C a D.spend.1.settle :: As) H'' → SmT H' H'' → Q' .non H'') ∧
  (D.spend.2 = false → ∀ t H1 H'', St T H0 F0 (diskT K C a D.spend.1 :: As) H1 → SmT H' H1 → Same H1 H'' → H'' t = some (.tup [.str (cnm 11), .int 0]) → Q' (.ref t) H'')
def spLawD (K : PySem.W.Frag) (T : List (Addr × Str)) : Sp := fun vs H Q _ => ∃ (a : Addr) (ns : List Int), vs = [.ref a] ∧ SqL K H a (ns.map V.int) ∧ ns.length ≤ 63 ∧ LamX.Tabs T H ∧ ∀ H', Q (.bl true) H'
theorem ok_lawD {Ts : List (Addr × Str)} {cs : Nat → Addr} {C Pt c : Addr} (hm : (Pt, qLam "law" s_law) ∈ Ts) (hn : (Ts.map Prod.fst).Nodup) (T : Txt mg) {f : Addr} {fd : FuncData} (D0 : FunD K "law" "law" (defArgs s_law) (defBody s_law) (defScope s_law) [] [] f fd) (hcode : fd.code = .ref c) (TB : LamX.TabB base mg c Pt) (C_Disk : DiskC K mg C)
    (MK_Disk : MkI P w K mg base CX0 1 "Disk" C P_Disk___init__ (spDiskI K C))
    (G_told : ∀ b, Fn P w K mg b CX0 5 "_law_told" P__law_told (spTold P w K mg 3 cs b)) (G__law_alike : Fn P w K mg base CX0 9 "_law_alike" P__law_alike (spAlike K 8))
    (G__law_begun : Fn P w K mg base CX0 1 "_law_begun" P__law_begun (spBegun K)) (G__law_take : Fn P w K mg base CX0 1 "_law_take" P__law_take (spDraw Ts)) (G__law_made : Fn P w K mg base CX0 1 "_law_made" P__law_made (spMade K Ts)) (G__law_count : Fn P w K mg base CX0 2 "_law_count" P__law_count (spCount K Ts))
    (G__law_write : Fn P w K mg base CX0 10 "_law_write" P__law_write (spLwr K Ts C)) (G__law_arms : Fn P w K mg base CX0 2 "_law_arms" P__law_arms (spArms K Ts C)) (G__law_is : Fn P w K mg base CX0 10 "_law_is" P__law_is (spLis K Ts C))
    (M_settle : ∀ b, Mth P w K mg b (L2.CX P w) 3 C "settle" P_Disk_settle (spSettleC K Ts C (cs 11))) : FnOk P w K mg base CX0 11 f fd P_law (spLawD K Ts) := by
  refine okT D0 hcode sc_law (fun vs H Q E h => ?_) (fun A outer s H vs Q E hr h => ?_)
  · obtain ⟨a, ns, rfl, _⟩ := h
    rfl
  · obtain ⟨sc, ns0, rfl, hS, hl, hT, k⟩ := h
    have nd := sc_law.nd
    refine ⟨_, (pss_cons (ps_set (i := 1) nd rfl (by first | exact Or.inl rfl | exact Or.inr rfl) (pe_c G__law_begun (hr.mono (by decide)) pass0 (pa_cons (pv 0) pa_nil)))
  (pss_cons (ps_set (i := 2) nd rfl (by first | exact Or.inl rfl | exact Or.inr rfl) (pe_lst (pa_cons (pe_tup (pa_cons (pe_new0 MK_Disk (hr.mono (by decide)) pass0) (pa_cons (pe_c0 G__law_made (hr.mono (by decide)) pass0) pa_nil))) (pa_cons (pe_tup (pa_cons (pe_new0 MK_Disk (hr.mono (by decide)) pass0) (pa_cons (pe_c0 G__law_made (hr.mono (by decide)) pass0) pa_nil))) pa_nil))))
  (pss_cons (ps_for PassesOwn.never rfl (pi_range1 (by rfl) T.b_range (pa_cons (pe_c G__law_take (hr.mono (by decide)) pass0 (pa_cons (pv 1) (pa_cons (pe_ix ix_list (pe_lst (pa_cons pe_int (pa_cons pe_int (pa_cons pe_int (pa_cons pe_int pa_nil))))) (pe_c G__law_take (hr.mono (by decide)) pass0 (pa_cons (pv 1) (pa_cons pe_int pa_nil))) (fun _ _ => rfl)) pa_nil))) pa_nil)) (pg_name (i := 3) nd rfl (by first | exact Or.inl rfl | exact Or.inr rfl))
  (pss_cons (ps_asg (pe_ix ix_list (pv 2) (pe_op op_fdiv (pe_c G__law_take (hr.mono (by decide)) pass0 (pa_cons (pv 1) (pa_cons pe_int pa_nil))) pe_int) (fun _ _ => rfl)) (pg_tupK (K := K) (n := 2) rfl (by rfl) (pgs_cons (pg_name (i := 5) nd rfl (by first | exact Or.inl rfl | exact Or.inr rfl)) (pgs_cons (pg_name (i := 6) nd rfl (by first | exact Or.inl rfl | exact Or.inr rfl)) pgs_nil))))
  (pss_cons (ps_set (i := 4) nd rfl (by first | exact Or.inl rfl | exact Or.inr rfl) (pe_c G__law_take (hr.mono (by decide)) pass0 (pa_cons (pv 1) (pa_cons pe_int pa_nil))))
  (Evl.pss_cut (ps_if (pt_cmpR op_lt (pv 4) pe_int (nomark _))
  (pss_one (ps_set (i := 7) nd rfl (by first | exact Or.inl rfl | exact Or.inr rfl) (pe_c G__law_write (hr.mono (by decide)) pass0 (pa_cons (pv 1) (pa_cons (pv 5) (pa_cons (pv 6) pa_nil))))))
  (pss_one (ps_if (pt_cmpR op_lt (pv 4) pe_int (nomark _))
  (Evl.pss_cut (ps_set (i := 8) nd rfl (by first | exact Or.inl rfl | exact Or.inr rfl) (pe_ifExp (pt_val (pe_c G__law_count (hr.mono (by decide)) pass0 (pa_cons (pv 6) pa_nil))) pe_non (pe_tup (pa_cons pe_str (pa_cons pe_int pa_nil)))))
  (Evl.pss_cut (ps_if (pt_cmpR op_isN (pv 8) pe_non (nomark _))
  (pss_cons (ps_for PassesOwn.never rfl (pi_list (pe_dget (hu_of hr) (pv 6) pe_str (fun _ _ => rfl))) (pg_tupK (K := K) (n := 2) rfl (by rfl) (pgs_cons (pg_name (i := 9) nd rfl (by first | exact Or.inl rfl | exact Or.inr rfl)) (pgs_cons (pg_name (i := 10) nd rfl (by first | exact Or.inl rfl | exact Or.inr rfl)) pgs_nil)))
  (pss_one (ps_asg (pv 10) (pg_sub (pe_dget (hu_of hr) (pv 6) pe_str (fun _ _ => rfl)) (pv 9) set_list))))
  (pss_one (ps_dput (hu_of hr) (pv 6) pe_str (pe_lst pa_nil) rfl)))
  pss_nil)
  (pss_one (ps_set (i := 7) nd rfl (by first | exact Or.inl rfl | exact Or.inr rfl) (pe_c G__law_alike (hr.mono (by decide)) pass0 (pa_cons (pe_callL (fun b => G_told b) (hr.mono (by decide)) (fun _ => rfl) (pa_cons (pe_lam0 (c := c) (P := Pt) (T := Ts) TB rfl hm (tl_u hn hm) (lamP_by (show lamPB N_law (defScope s_law) _ [] = true by decide +kernel)).free rfl) pa_nil)) (pa_cons (pv 8) pa_nil)))))))
  (pss_one (ps_set (i := 7) nd rfl (by first | exact Or.inl rfl | exact Or.inr rfl) (pe_c G__law_arms (hr.mono (by decide)) pass0 (pa_cons (pv 1) (pa_cons (pv 5) (pa_cons (pv 6) pa_nil)))))))))
  (pss_one (ps_if (PW.pt (pw_or (pt_not (pt_val (pv 7))) (pw_or (pt_not (pt_val (pe_c G__law_is (hr.mono (by decide)) pass0 (pa_cons (pv 1) (pa_cons (pe_ix ix_tup (pe_ix ix_list (pv 2) pe_int (fun _ _ => rfl)) pe_int (fun _ _ => rfl)) (pa_cons (pe_ix ix_tup (pe_ix ix_list (pv 2) pe_int (fun _ _ => rfl)) pe_int (fun _ _ => rfl)) pa_nil)))))) (pw_or1 (pt_not (pt_val (pe_c G__law_is (hr.mono (by decide)) pass0 (pa_cons (pv 1) (pa_cons (pe_ix ix_tup (pe_ix ix_list (pv 2) pe_int (fun _ _ => rfl)) pe_int (fun _ _ => rfl)) (pa_cons (pe_ix ix_tup (pe_ix ix_list (pv 2) pe_int (fun _ _ => rfl)) pe_int (fun _ _ => rfl)) pa_nil))))))))))
  (pss_one (ps_ret pe_bl))
  pss_nil))))))
  (pss_one (ps_ret pe_bl))))), ?_⟩
    refine ⟨_, rfl, sc, ns0, rfl, hS, hl, fun H1 b l s1 B1 => ?_⟩
    have st1 : St Ts H1 (fun q => q = b ∨ q = l) [boxT b] H1 := .start (.of ⟨l, B1, fun q => Iff.rfl⟩) (tabs_same hT s1)
    refine fun a0 dx0 na0 nd0 _ => ⟨a0, dx0, rfl, upd_same, fun H2 F2 r2 fr2 old2 => ⟨rfl, ?_⟩⟩
    obtain ⟨st2, _⟩ := st1.newDisk na0 nd0 r2 fr2 old2
    refine ⟨_, _, _, rfl, st2, fun H3 o0 st3 _ => ⟨(by show 2 ≤ sizeLine; decide), fun t0 nt0 => ?_⟩⟩
    have st4 := st3.same (Same.upd (o := .tup [.ref a0, .ref o0]) nt0)
    have ht0 : (L2.upd H3 t0 (.tup [.ref a0, .ref o0])) t0 = some (.tup [.ref a0, .ref o0]) := upd_same
    generalize hH4 : L2.upd H3 t0 (HO.tup [V.ref a0, V.ref o0]) = H4 at st4 ht0 ⊢
    refine fun a1 dx1 na1 nd1 _ => ⟨a1, dx1, rfl, upd_same, fun H5 F5 r5 fr5 old5 => ⟨rfl, ?_⟩⟩
    obtain ⟨st5, s5⟩ := st4.newDisk na1 nd1 r5 fr5 old5
    refine ⟨_, _, _, rfl, st5, fun H6 o1 st6 s6 => ⟨(by show 2 ≤ sizeLine; decide), fun t1 nt1 => ⟨(by show 2 ≤ sizeLine; decide), fun q nq => ?_⟩⟩⟩
    have s7 := Same.upd (o := .tup [.ref a1, .ref o1]) nt1
    have st8 := (st6.same s7).new (xs := [.ref t0, .ref t1]) nq
    have s8 := Same.upd (o := .lst [.ref t0, .ref t1]) nq
    have ss : SS Ts K C b q t0 t1 a0 o0 a1 o1 0 (L2.upd (L2.upd H6 t1 (.tup [.ref a1, .ref o1])) q (.lst [.ref t0, .ref t1])) :=
      ⟨_, _, dskNew, ownNew, dskNew, ownNew, st8.order [5, 0, 4, 3, 2, 1] rfl, s8 _ _ (s7 _ _ (s6 _ _ (s5 _ _ ht0))), s8 _ _ upd_same, both_new, both_new, Nat.le_refl _, Nat.le_refl _⟩
    generalize hH8 : L2.upd (L2.upd H6 t1 (HO.tup [V.ref a1, V.ref o1])) q (HO.lst [V.ref t0, V.ref t1]) = H8 at ss ⊢
    obtain ⟨G0, F0, As0, sb, bk⟩ := ss.box
    refine ⟨_, rfl, (by show 4 ≤ sizeLine; decide), fun q1 nq1 => ?_⟩
    have sb2 := sb.new2 (xs := [81, 81, 81, 300].map V.int) nq1
    have sm2 := SmT.of (Same.upd (o := .lst ([81, 81, 81, 300].map V.int)) nq1)
    refine ⟨_, rfl, b, 4, rfl, G0, F0, _, sb2, by decide, by decide, fun H9 z st9 sm9 z0 z1 => ?_⟩
    obtain ⟨y, hy, ya⟩ := pickZ (zs := [81, 81, 81, 300]) z0 z1
    have yb : 0 < y ∧ y ≤ 300 := by
      simp only [List.mem_cons, List.not_mem_nil, or_false] at hy
      omega
    refine ⟨q1, _, z, _, rfl, rfl, SqL.of st9.lst2, ya, b, y, rfl, G0, F0, _, st9.del2, yb.1, by omega, fun H10 n st10 sm10 n0 n1 => ?_⟩
    have ss := bk _ st10 ((sm2.trans sm9).trans sm10)
    clear bk sb sb2 st9 st10
    refine ⟨_, rfl, by omega, by omega, for_it (walk_range (lo := 0)) (fun i σ H' => (∃ v3 v4 v5 v6 v7 v8 v9 v10, σ = [some (.ref sc), some (.ref b), some (.ref q), v3, v4, v5, v6, v7, v8, v9, v10]) ∧ SS Ts K C b q t0 t1 a0 o0 a1 o1 i H') ⟨⟨none, none, none, none, none, none, none, none, rfl⟩, ss⟩ (fun _ _ _ _ _ => True.intro) ?_ (fun σ H' _ => k H')⟩
    rintro i x σ H11 H11' hi ⟨⟨v3, v4, v5, v6, v7, v8, v9, v10, rfl⟩, ss11⟩ ⟨rfl, rfl⟩
    have i300 : i < 300 := by omega
    obtain ⟨G0, F0, As0, sb, bk⟩ := ss11.box
    refine ⟨_, rfl, _, rfl, b, 4, rfl, G0, F0, _, sb, by decide, by decide, fun H12 sd st12 sm12 sd0 sd1 => ⟨_, _, rfl, rfl, ⟨by decide, by decide⟩, ?_⟩⟩
    have ss12 := bk _ st12 sm12
    clear bk sb st12
    obtain ⟨hq, h0, h1⟩ := ss12.tup
    -- the side that has its turn
    obtain ⟨a, o, t, ht, side, yt⟩ : ∃ a o t, H12 t = some (.tup [.ref a, .ref o]) ∧ (∀ m H', SS Ts K C b q t0 t1 a0 o0 a1 o1 m H' → Side Ts K C b a o m H' (SS Ts K C b q t0 t1 a0 o0 a1 o1)) ∧ atI [V.ref t0, V.ref t1] (sd / 3) = some (.ref t) := by
      by_cases c : sd / 3 = 0
      · exact ⟨a0, o0, t0, h0, fun m H' h => h.side0, by rw [c]; exact at_of (z := 0) (j := 0) rfl rfl⟩
      · exact ⟨a1, o1, t1, h1, fun m H' h => h.side1, by rw [show sd / 3 = 1 from by omega]; exact at_of (z := 1) (j := 1) rfl rfl⟩
    refine ⟨q, _, sd / 3, _, rfl, rfl, SqL.of hq, yt, t, _, rfl, SqT.of ht, rfl, _, _, rfl, _, _, rfl, rfl, ?_⟩
    obtain ⟨G0, F0, As0, sb, bk⟩ := ss12.box
    refine ⟨_, rfl, b, 10, rfl, G0, F0, _, sb, by decide, by decide, fun H13 way st13 sm13 w0 w1 => ?_⟩
    have ss13 := bk _ st13 sm13
    clear bk sb st13 ss12 hq h0 h1 ht
    refine ⟨fun σ H14 => ∃ v8 v9 v10, σ = [some (.ref sc), some (.ref b), some (.ref q), some (.int (0 + (i : Int))), some (.int way), some (.ref a), some (.ref o), some (.bl true), v8, v9, v10] ∧ SS Ts K C b q t0 t1 a0 o0 a1 o1 (i + 1) H14, ?_, ?_⟩
    · obtain ⟨D, O, F1, st14, bo, lp, bk⟩ := side _ _ ss13
      refine ⟨_, rfl, _, _, rfl, rfl, _, rfl, ?_⟩
      refine ite2 (fun _ => ?_) (fun _ => ?_)
      · refine ⟨_, rfl, _, rfl, _, rfl, b, a, o, D, O, H13, F1, [], rfl, st14, bo, by omega, fun H15 D' O' st15 bo' lp' => ⟨_, _, _, rfl, bk H15 D' O' (i + 1) (by omega) st15 bo' (by omega)⟩⟩
      refine ⟨_, rfl, _, _, rfl, rfl, _, rfl, ?_⟩
      refine ite2 (fun _ => ?_) (fun _ => ?_)
      rotate_left
      · refine ⟨_, rfl, _, rfl, _, rfl, b, a, o, D, O, H13, F1, [], rfl, st14, bo, fun H15 D' O' st15 bo' lp' => ⟨_, _, _, rfl, bk H15 D' O' (i + 1) (by omega) st15 bo' (by omega)⟩⟩
      have st14o : St Ts H13 F1 [ownT K o O, boxT b, diskT K C a D] H13 := st14.order [2, 0, 1] rfl
      obtain ⟨bs, e2⟩ := bo.spent
      have cp := count_pending (O := O)
      refine ⟨fun σ H15 => ∃ due v7 v9 v10, σ = [some (.ref sc), some (.ref b), some (.ref q), some (.int (0 + (i : Int))), some (.int way), some (.ref a), some (.ref o), v7, some due, v9, v10] ∧ St Ts H13 F1 [ownT K o O.count.1, boxT b, diskT K C a D] H15 ∧
        ((O.count.2 = true ∧ due = .non) ∨ (O.count.2 = false ∧ ∃ t, due = .ref t ∧ H15 t = some (.tup [.str (cnm 11), .int 0]))), ?_, ?_⟩
      · refine ⟨_, rfl, o, O, H13, F1, _, rfl, st14o, bo.oo, fun H15 st15 sm15 => ⟨_, rfl, ?_⟩⟩
        refine ite2 (fun ct => ?_) (fun cf => ?_)
        · exact ⟨_, _, _, _, rfl, st15, .inl ⟨ct, rfl⟩⟩
        · refine ⟨(by show 2 ≤ sizeLine; decide), fun t nt => ?_⟩
          exact ⟨_, _, _, _, rfl, st15.same (Same.upd nt), .inr ⟨Bool.not_eq_true _ |>.mp cf, t, rfl, upd_same⟩⟩
      rintro σ H15 ⟨due, v7, v9, v10, rfl, st15, cases2⟩
      refine ⟨fun σ H16 => ∃ v7 v9 v10, σ = [some (.ref sc), some (.ref b), some (.ref q), some (.int (0 + (i : Int))), some (.int way), some (.ref a), some (.ref o), v7, some due, v9, v10] ∧
        ((O.count.2 = true ∧ due = .non ∧ St Ts H13 F1 [ownT K o O.count.1.settle, boxT b, diskT K C a D] H16) ∨ (O.count.2 = false ∧ St Ts H13 F1 [ownT K o O.count.1, boxT b, diskT K C a D] H16 ∧ ∃ t, due = .ref t ∧ H16 t = some (.tup [.str (cnm 11), .int 0]))), ?_, ?_⟩
      · refine ⟨_, rfl, rfl, _, rfl, ?_⟩
        rcases cases2 with ⟨ct, rfl⟩ | ⟨cf, t, rfl, ht⟩
        rotate_left
        · exact ite2 (fun z => nomatch (of_decide_eq_true z)) (fun _ => ⟨_, _, _, rfl, .inr ⟨cf, st15, t, rfl, ht⟩⟩)
        refine ite2 (fun _ => ?_) (fun z => absurd rfl z)
        obtain ⟨s', q', p', hA, mv⟩ := st15.own
        obtain ⟨hd, ⟨xs, hs, is⟩, ⟨ys, hq, iq⟩, hp, ap⟩ := id hA
        obtain ⟨sq, sp, qp⟩ := id ap
        obtain ⟨so, qo, po⟩ := hA.apart
        have lq := iq.1
        rw [List.length_map] at lq
        refine ⟨_, rfl, o, _, rfl, og_q hd, q', rfl, ⟨_, SqL.of hq⟩, for_it (walk_list (xs := ys)) (fun i' σ H' => (∃ v9 v10, σ = [some (.ref sc), some (.ref b), some (.ref q), some (.int (0 + (i : Int))), some (.int way), some (.ref a), some (.ref o), v7, some .non, v9, v10]) ∧ ∃ us, H' s' = some (.lst us) ∧ Iss K H' us ((O.count.1.pending.take i').foldl (fun ss q => ss.set q.1 q.2) O.count.1.settled) ∧ (∀ r x, r ≠ s' → H15 r = some x → H' r = some x)) ⟨⟨v9, v10, rfl⟩, xs, hs, is, fun r x _ e => e⟩ (fun _ _ _ _ ⟨_, us, _, _, out⟩ => SqL.of (out _ _ sq.symm hq)) ?_ ?_⟩
        · rintro i' x σ H16 H16' hi' ⟨⟨v9', v10', rfl⟩, us, hus, ius, out⟩ ⟨rfl, e⟩
          obtain ⟨⟨blk, what⟩, hw⟩ : ∃ z, O.count.1.pending[i']? = some z := ⟨_, List.getElem?_eq_getElem (by omega)⟩
          have iy := (iq.keep (SmT.but hs out)).2 i' x (waitD (blk, what)) e (by rw [List.getElem?_map, hw]; rfl)
          obtain ⟨t2, zz, rfl, ht2, izz⟩ := is_tup iy
          obtain ⟨vb, vw, rfl⟩ : ∃ vb vw, zz = [vb, vw] := by
            have := izz.1
            match zz, this with
            | [vb, vw], _ => exact ⟨vb, vw, rfl⟩
          obtain ⟨hvb, izz2⟩ := izz.uncons
          obtain ⟨hvw, _⟩ := izz2.uncons
          cases hvb
          refine ⟨t2, _, rfl, ht2, rfl, _, _, rfl, _, _, rfl, rfl, _, rfl, _, rfl, o, _, rfl, og_s (out _ _ so.symm hd), _, rfl, s', us, (blk : Int), blk, rfl, rfl, hus, ?_, ?_⟩
          · refine Evl.ixN_nat ?_
            have hbl : blk < 600 := bs.oo.lw (blk, what) (List.mem_of_getElem? hw)
            have l1 := ius.1
            rw [sets_len, bs.oo.ls] at l1
            omega
          · have smu : SmT H16' (L2.upd H16' s' (.lst (us.set blk vw))) := SmT.put hus .lst
            refine ⟨⟨_, _, rfl⟩, us.set blk vw, upd_same, ?_, fun r x nr e => (upd_ne nr).trans (out _ _ nr e)⟩
            rw [take_moreZ hw, List.foldl_append]
            exact (ius.set blk hvw).keep smu
        · rintro σ H16 ⟨⟨v9', v10', rfl⟩, us, hus, ius, out⟩
          rw [lq, List.take_length] at ius
          have hd1 := out _ _ so.symm hd
          refine ⟨Nat.zero_le _, fun q2 nq2 => ?_⟩
          have s1 := Same.upd (o := .lst []) nq2
          have q2s : q2 ≠ s' := fun z => by
            rw [z, hus] at nq2
            cases nq2
          have q2o : q2 ≠ o := fun z => by
            rw [z, hd1] at nq2
            cases nq2
          have fr : H15 q2 = none := by
            cases e : H15 q2 with
            | none => rfl
            | some x =>
              rw [out q2 x q2s e] at nq2
              cases nq2
          refine ⟨_, rfl, o, _, rfl, op_q (s1 _ _ hd1), ?_⟩
          have smu : SmT (L2.upd H16 q2 (.lst [])) (L2.upd (L2.upd H16 q2 (.lst [])) o (.dK (okvs (.ref s') (.ref q2) (deedV O.count.1.left) (.ref p') (.bl O.count.1.fallen)))) := SmT.put (s1 _ _ hd1) .dK
          obtain ⟨st17, _⟩ := mv (O' := O.count.1.settle) (s' := s') (q' := q2) (p' := p') ⟨upd_same, ⟨us, (upd_ne so).trans (s1 _ _ hus), (ius.same s1).keep smu⟩, ⟨[], (upd_ne q2o).trans upd_same, .nil⟩, (upd_ne po).trans (s1 _ _ (out _ _ sp.symm hp)), ⟨q2s.symm, sp, (none_ne hp fr).symm⟩⟩ (sub_q fr) fun r u f e => (upd_ne fun z => f (.inl z)).trans (s1 _ _ (out _ _ (fun z => f (.inr (.inl z))) e))
          exact ⟨_, _, _, rfl, .inl ⟨ct, rfl, st17⟩⟩
      · rintro σ H16 ⟨v7, v9, v10, rfl, cases2⟩
        have stA : ∃ O1, St Ts H13 F1 [ownT K o O1, boxT b, diskT K C a D] H16 := by
          rcases cases2 with ⟨_, _, st⟩ | ⟨_, st, _⟩ <;> exact ⟨_, st⟩
        obtain ⟨O1, stA⟩ := stA
        refine ⟨stA.tabs, fun f1 d1 Ha e1 t1' M1 => fun b' LB => ⟨f1, TS K Ts C a D, Ha, rfl, ?_, Same.refl _, ?_⟩⟩
        · refine work_of (k := 3) (t := fun E => tMeth C "settle" (spSettleC K Ts C (cs 11)) [] E (tVar 5) tNil) (ps := []) LB M1 (lamP_by (show lamPB N_law (defScope s_law) _ _ = true by decide +kernel)) (.inl ⟨rfl, fun _ _ _ _ _ _ => rfl⟩) (fun A outer s H E hr2 => pe_m0 (pv 5) C_Disk.cl (M_settle _) hr2 (passes_at (fun σ => passAt (takes_of rfl rfl rfl rfl) σ))) (fun H' Q' E s' Tt hE => ?_)
          obtain ⟨H0', F0', As', stw, k0, k1⟩ := Tt
          obtain ⟨s3, n3, w3, p3, hA3, _⟩ := stw.disk
          obtain ⟨dx, hi3⟩ := hA3.ins
          exact ⟨_, rfl, a, dx, _, rfl, hi3, dn_settle, a, D, H0', F0', As', rfl, stw, bo.od, bo.dd, fun t H'' st'' sm'' => k0 t H'' st'' sm'', fun t H'' st'' sm'' => hE _ _ _ ⟨11, 0, by decide, rfl, .inl ⟨by decide, by decide, by decide, rfl, rfl⟩, fun H3 u s3 _ ht => k1 t u H'' H3 st'' sm'' s3 ht⟩⟩
        · rcases cases2 with ⟨ct, rfl, st⟩ | ⟨cf, st, t, rfl, ht⟩
          · have sta : St Ts H13 F1 [diskT K C a D, ownT K o O.count.1.settle, boxT b] Ha := (st.ext e1 t1').order [2, 0, 1] rfl
            refine ⟨H13, F1, _, sta, fun _ H17 st17 _ => ?_, fun hf => ?_⟩
            · refine ⟨_, rfl, .non, .non, rfl, 0, by decide, .non, ⟨_, _, _, rfl, bk H17 _ _ (i + 1) (by omega) (st17.order [2, 0, 1] rfl) (bs.settle (count_ok ct)) (Nat.zero_le _)⟩⟩
            · rw [e2, ct] at hf
              cases hf
          · have sta : St Ts H13 F1 [diskT K C a D, ownT K o O.count.1, boxT b] Ha := (st.ext e1 t1').order [2, 0, 1] rfl
            refine ⟨H13, F1, _, sta, fun ht2 => ?_, fun _ t' H17 H18 st17 sm17 s18 ht' => ?_⟩
            · rw [e2, cf] at ht2
              cases ht2
            · have hta := s18 _ _ (sm17 _ _ (e1 _ _ ht fun _ z => by cases z) (.inl ⟨_, rfl⟩))
              refine ⟨_, rfl, .ref t', .ref t, rfl, 1, by decide, alk_two ht' hta, ⟨_, _, _, rfl, bk H18 _ _ (i + 1) (by omega) ((st17.same s18).order [2, 0, 1] rfl) bs (by omega)⟩⟩
    · rintro σ H14 ⟨v8, v9, v10, rfl, ss14⟩
      have ix : ∀ {H'}, SS Ts K C b q t0 t1 a0 o0 a1 o1 (i + 1) H' → SqL K H' q [.ref t0, .ref t1] ∧ SqT K H' t0 [.ref a0, .ref o0] ∧ SqT K H' t1 [.ref a1, .ref o1] := fun h => ⟨SqL.of h.tup.1, SqT.of h.tup.2.1, SqT.of h.tup.2.2⟩
      have e0 : ∀ {x y : V}, atI [x, y] 0 = some x := fun {x y} => at_of (z := 0) (j := 0) rfl rfl
      have e1 : ∀ {x y : V}, atI [x, y] 1 = some y := fun {x y} => at_of (z := 1) (j := 1) rfl rfl
      obtain ⟨i1, i2, i3⟩ := ix ss14
      refine ⟨_, rfl, _, rfl, ?_⟩
      refine ite2 (fun z => nomatch z) (fun _ => ?_)
      obtain ⟨D, O, F1, st15, bo, lp, bk⟩ := ss14.side0
      refine ⟨_, rfl, _, rfl, q, _, 0, _, rfl, rfl, i1, e0, t0, _, 0, _, rfl, rfl, i2, e0, _, rfl, q, _, 0, _, rfl, rfl, i1, e0, t0, _, 1, _, rfl, rfl, i2, e1, b, a0, o0, D, O, H14, F1, [], rfl, st15, bo, fun H16 st16 => ⟨_, rfl, ?_⟩⟩
      have ss16 := bk H16 D O (i + 1) (Nat.le_refl _) st16 bo lp
      refine ite2 (fun z => nomatch z) (fun _ => ?_)
      obtain ⟨i1, i2, i3⟩ := ix ss16
      obtain ⟨D, O, F1, st15, bo, lp, bk⟩ := ss16.side1
      refine ⟨_, rfl, _, rfl, q, _, 1, _, rfl, rfl, i1, e1, t1, _, 0, _, rfl, rfl, i3, e0, _, rfl, q, _, 1, _, rfl, rfl, i1, e1, t1, _, 1, _, rfl, rfl, i3, e1, b, a1, o1, D, O, H16, F1, [], rfl, st15, bo, fun H17 st17 => ⟨_, rfl, ?_⟩⟩
      have ss17 := bk H17 D O (i + 1) (Nat.le_refl _) st17 bo lp
      refine ite2 (fun z => nomatch z) (fun _ => ?_)
      exact ⟨⟨_, _, _, _, _, _, _, _, rfl⟩, ss17⟩
end
end K3

set_option Elab.async false
set_option linter.all false
set_option maxRecDepth 100000
set_option maxHeartbeats 0
namespace K3
open PySem PySem.Spec PyProof.Rows L2
def mkD (x : Str) (st : Stmt) : He.DefD := ⟨(x, none), x, x, defArgs st, defBody st, defScope st, [], []⟩
def fnL : List He.DefD := [mkD "check_block" s_check_block, mkD "weight" s_weight, mkD "_law_begun" s__law_begun, mkD "_law_take" s__law_take, mkD "_law_alike" s__law_alike, mkD "_law_class" s__law_class, mkD "_law_told" s__law_told, mkD "_law_nest" s__law_nest, mkD "_law_what" s__law_what, mkD "_law_weight" s__law_weight, mkD "_law_made" s__law_made, mkD "_law_fall" s__law_fall, mkD "_law_count" s__law_count, mkD "_law_write" s__law_write, mkD "_law_arms" s__law_arms, mkD "_law_is" s__law_is, mkD "law" s_law, ⟨("Disk", some "__init__"), "__init__", "Disk.__init__", defArgs s_Disk___init__, defBody s_Disk___init__, defScope s_Disk___init__, [], []⟩, ⟨("Disk", some "write"), "write", "Disk.write", defArgs s_Disk_write, defBody s_Disk_write, defScope s_Disk_write, [], []⟩, ⟨("Disk", some "settle"), "settle", "Disk.settle", defArgs s_Disk_settle, defBody s_Disk_settle, defScope s_Disk_settle, [], []⟩, ⟨("Disk", some "read"), "read", "Disk.read", defArgs s_Disk_read, defBody s_Disk_read, defScope s_Disk_read, [], []⟩, ⟨("Disk", some "arm"), "arm", "Disk.arm", defArgs s_Disk_arm, defBody s_Disk_arm, defScope s_Disk_arm, [], []⟩, ⟨("Disk", some "stop"), "stop", "Disk.stop", defArgs s_Disk_stop, defBody s_Disk_stop, defScope s_Disk_stop, [], []⟩, ⟨("Disk", some "again"), "again", "Disk.again", defArgs s_Disk_again, defBody s_Disk_again, defScope s_Disk_again, [], []⟩, ⟨("Disk", some "blocks"), "blocks", "Disk.blocks", defArgs s_Disk_blocks, defBody s_Disk_blocks, defScope s_Disk_blocks, [], []⟩, ⟨("Disk", some "check_running"), "check_running", "Disk.check_running", defArgs s_Disk_check_running, defBody s_Disk_check_running, defScope s_Disk_check_running, [], []⟩, ⟨("Disk", some "spend_deed"), "spend_deed", "Disk.spend_deed", defArgs s_Disk_spend_deed, defBody s_Disk_spend_deed, defScope s_Disk_spend_deed, [], []⟩]
def faL : List He.Fa := [.glo "check_block", .glo "weight", .glo "_law_begun", .glo "_law_take", .glo "_law_alike", .glo "_law_class", .glo "_law_told", .glo "_law_nest", .glo "_law_what", .glo "_law_weight", .glo "_law_made", .glo "_law_fall", .glo "_law_count", .glo "_law_write", .glo "_law_arms", .glo "_law_is", .glo "law", .glo "BadNumber", .glo "BadValues", .glo "NoForm", .glo "BadPrices", .glo "BadKinds", .glo "BadRows", .glo "BadCondition", .glo "BadColumn", .glo "BadHeap", .glo "TooMany", .glo "BadBlock", .glo "Stopped", .glo "BadText", .glo "ColumnError", .int "BLOCKS" 600, .int "MOST_WEIGHT" 40, .free "len", .free "tuple", .free "list", .free "int", .free "range", .free "enumerate", .free "reversed", .free "min", .free "max", .free "set", .free "sorted", .free "isinstance", .free "sum", .free "bool", .free "str", .free "ValueError", .free "zip", .exc "BadBlock", .exc "Stopped", .glo "Disk", .cls "Disk", .mkr "Disk", .noat "Disk" "deeds", .noat "Disk" "newest", .noat "Disk" "picks", .noat "Disk" "running", .noat "Disk" "settled", .noat "Disk" "waiting", .meth "Disk" "write", .meth "Disk" "settle", .meth "Disk" "read", .meth "Disk" "arm", .meth "Disk" "stop", .meth "Disk" "again", .meth "Disk" "blocks", .meth "Disk" "check_running", .meth "Disk" "spend_deed"]
def tabL : List He.Tab := []
def tfL : List He.Defn := [("law", none), ("_law_write", none), ("_law_is", none)]
def exL (K : PySem.W.Frag) : Bool := (decide ((TL3 (He.cT K ("law", none)).2 (He.cT K ("_law_write", none)).2 (He.cT K ("_law_is", none)).2).map Prod.fst).Nodup) && (kindsB K (fun i => He.ga K (cnm i)) (He.ga K "ColumnError"))
abbrev R : PySem.W.OpenRow := PySem.W.OpenLaw.row PySem.Challenge.rw_codecolumns_k13_disks
abbrev hk : PySem.W.Hook := He.hookX 4 faL fnL tabL tfL exL
def ob (s : PySem.W.SharedT) : He.AlX := He.obsX 4 faL fnL tabL tfL exL (HandSHeadRun.getT s)
theorem ob_eq (s : PySem.W.SharedT) : ob s = hk.obs s.abs := He.obsX_eq (HandSHeadRun.getT_eq s)
def looseL : List Str := [("check_block" : Str), ("weight" : Str), ("_law_begun" : Str), ("_law_take" : Str), ("_law_alike" : Str), ("_law_class" : Str), ("_law_told" : Str), ("_law_all" : Str), ("_law_nest" : Str), ("_law_what" : Str), ("_law_weight" : Str), ("_law_made" : Str), ("_law_fall" : Str), ("_law_count" : Str), ("_law_write" : Str), ("_law_arms" : Str), ("_law_is" : Str), ("ColumnError" : Str), ("BadNumber" : Str), ("BadValues" : Str), ("NoForm" : Str), ("BadPrices" : Str), ("BadKinds" : Str), ("BadRows" : Str), ("BadCondition" : Str), ("BadColumn" : Str), ("BadHeap" : Str), ("TooMany" : Str), ("BadBlock" : Str), ("Stopped" : Str), ("BadText" : Str), ("Disk" : Str), ("BLOCKS" : Str), ("MOST_WEIGHT" : Str)]
theorem run_f (w : World) : HandSHeadRun.RunEq R (PySem.W.view R.prog [37]) hk ob 9000 looseL (w.withFollow "special-get-raises" false) := by
  intro os
  kernel_rfl
theorem run_t (w : World) : HandSHeadRun.RunEq R (PySem.W.view R.prog [37]) hk ob 9000 looseL (w.withFollow "special-get-raises" true) := by
  intro os
  kernel_rfl
theorem run (w : World) : HandSHeadRun.RunEq R (PySem.W.view R.prog [37]) hk ob 9000 looseL w := PySem.W.byRow2 "special-get-raises" (P := fun w => HandSHeadRun.RunEq R (PySem.W.view R.prog [37]) hk ob 9000 looseL w) run_f run_t w
end K3

set_option Elab.async false
set_option linter.all false
set_option maxRecDepth 100000
set_option maxHeartbeats 0
namespace K3
open PySem PySem.Spec PyProof.Rows L2
/-! ### what the hook tells -/
section
variable {P : Program} {w : World} {K : PySem.W.Frag} {h : Heap} {mg : Str → Option Value}
theorem df_of (X : K.In h) (G : h.Ns mainGlobals mg) (c : He.SaysD faL fnL K) (i j : Nat) {x : Str} {st : Stmt} {ps : List Str} (hd : fnL[i]? = some (mkD x st)) (hg : faL[j]? = some (.glo x))
    (hb : ∀ (kV doc pm : Value) (an : Option Addr) (cdv ct : Value) (us : List Value), us.length = ps.length → bindArgs (PySem.W.fnOf x x (defArgs st) (defBody st) (defScope st) .none kV doc pm an cdv ct) ⟨us, []⟩ = pure (ps.zip us)) : Df K mg x st ps := by
  obtain ⟨fd, F⟩ := c.def_ i hd
  exact ⟨_, fd, F, He.glo_ok X G (c.fact j hg), FunD.bindsN F hb⟩
theorem txt_of (X : K.In h) (G : h.Ns mainGlobals mg) (c : He.SaysD faL fnL K) : Txt mg where
  b_len := He.free_ok X G (c.fact 33 rfl)
  b_tuple := He.free_ok X G (c.fact 34 rfl)
  b_list := He.free_ok X G (c.fact 35 rfl)
  b_int := He.free_ok X G (c.fact 36 rfl)
  b_range := He.free_ok X G (c.fact 37 rfl)
  b_enumerate := He.free_ok X G (c.fact 38 rfl)
  b_reversed := He.free_ok X G (c.fact 39 rfl)
  b_min := He.free_ok X G (c.fact 40 rfl)
  b_max := He.free_ok X G (c.fact 41 rfl)
  b_set := He.free_ok X G (c.fact 42 rfl)
  b_sorted := He.free_ok X G (c.fact 43 rfl)
  b_isinstance := He.free_ok X G (c.fact 44 rfl)
theorem law_facts {f : Addr} (X : K.In h) (G : h.Ns mainGlobals mg) (hfa : mg ("law" : Str) = some (.ref f)) (cx : He.SaysX faL fnL tabL tfL exL w h K) :
    ∃ fd : FuncData, (∀ (s : Shared) (v : Value), BindsTo s fd ⟨[v], []⟩ [("_law_script", v)]) ∧ ∀ base : Heap, K.In base → base.Ns mainGlobals mg → LamX.TabB base mg (He.cT K ("law", none)).1 (He.cT K ("law", none)).2 → LamX.TabB base mg (He.cT K ("_law_write", none)).1 (He.cT K ("_law_write", none)).2 → LamX.TabB base mg (He.cT K ("_law_is", none)).1 (He.cT K ("_law_is", none)).2 → FnOk P w K mg base CX0 11 f fd ["_law_script"] (spLawD K (TL3 (He.cT K ("law", none)).2 (He.cT K ("_law_write", none)).2 (He.cT K ("_law_is", none)).2)) := by
  have c := cx.t.d
  obtain ⟨fd, F⟩ := c.def_ 16 (d := mkD "law" s_law) rfl
  have e := hfa.symm.trans (He.glo_ok X G (c.fact 16 (f := .glo "law") rfl))
  cases e
  have hcode_law : fd.code = .ref (He.cT K ("law", none)).1 := by
    obtain ⟨oc, od, dV, kV, doc, pm, an, cdv, ct, osl, rfl, lk, hcd, _, _⟩ := F.ex
    obtain ⟨cc, ec⟩ := He.codeIn_ref hcd
    have e2 := He.codeOf_eq (p := ("law", none)) lk ec
    show cdv = _
    rw [ec, ← e2]
    rfl
  have b := FunD.bindsA (ps := ["_law_script"]) F fun _ _ _ _ _ _ us hl => match us, hl with | [_], _ => rfl
  refine ⟨fd, fun s v => b s [v] rfl, fun base _ _ TB_law TB__law_write TB__law_is => ?_⟩
  have T := txt_of X G c
  have D_check_block : Df K mg "check_block" s_check_block P_check_block := df_of X G c 0 0 rfl rfl fun _ _ _ _ _ _ us hl => match us, hl with | [_], _ => rfl
  have D_weight : Df K mg "weight" s_weight P_weight := df_of X G c 1 1 rfl rfl fun _ _ _ _ _ _ us hl => match us, hl with | [_], _ => rfl
  have D__law_begun : Df K mg "_law_begun" s__law_begun P__law_begun := df_of X G c 2 2 rfl rfl fun _ _ _ _ _ _ us hl => match us, hl with | [_], _ => rfl
  have D__law_take : Df K mg "_law_take" s__law_take P__law_take := df_of X G c 3 3 rfl rfl fun _ _ _ _ _ _ us hl => match us, hl with | [_, _], _ => rfl
  have D__law_alike : Df K mg "_law_alike" s__law_alike P__law_alike := df_of X G c 4 4 rfl rfl fun _ _ _ _ _ _ us hl => match us, hl with | [_, _], _ => rfl
  have D__law_class : Df K mg "_law_class" s__law_class P__law_class := df_of X G c 5 5 rfl rfl fun _ _ _ _ _ _ us hl => match us, hl with | [_], _ => rfl
  have D__law_told : Df K mg "_law_told" s__law_told P__law_told := df_of X G c 6 6 rfl rfl fun _ _ _ _ _ _ us hl => match us, hl with | [_], _ => rfl
  have D__law_nest : Df K mg "_law_nest" s__law_nest P__law_nest := df_of X G c 7 7 rfl rfl fun _ _ _ _ _ _ us hl => match us, hl with | [_, _, _], _ => rfl
  have D__law_what : Df K mg "_law_what" s__law_what P__law_what := df_of X G c 8 8 rfl rfl fun _ _ _ _ _ _ us hl => match us, hl with | [_], _ => rfl
  have D__law_weight : Df K mg "_law_weight" s__law_weight P__law_weight := df_of X G c 9 9 rfl rfl fun _ _ _ _ _ _ us hl => match us, hl with | [_], _ => rfl
  have D__law_made : Df K mg "_law_made" s__law_made P__law_made := df_of X G c 10 10 rfl rfl fun _ _ _ _ _ _ us hl => match us, hl with | [], _ => rfl
  have D__law_fall : Df K mg "_law_fall" s__law_fall P__law_fall := df_of X G c 11 11 rfl rfl fun _ _ _ _ _ _ us hl => match us, hl with | [_, _], _ => rfl
  have D__law_count : Df K mg "_law_count" s__law_count P__law_count := df_of X G c 12 12 rfl rfl fun _ _ _ _ _ _ us hl => match us, hl with | [_], _ => rfl
  have D__law_write : Df K mg "_law_write" s__law_write P__law_write := df_of X G c 13 13 rfl rfl fun _ _ _ _ _ _ us hl => match us, hl with | [_, _, _], _ => rfl
  have D__law_arms : Df K mg "_law_arms" s__law_arms P__law_arms := df_of X G c 14 14 rfl rfl fun _ _ _ _ _ _ us hl => match us, hl with | [_, _, _], _ => rfl
  have D__law_is : Df K mg "_law_is" s__law_is P__law_is := df_of X G c 15 15 rfl rfl fun _ _ _ _ _ _ us hl => match us, hl with | [_, _, _], _ => rfl
  obtain ⟨fd__law_write, F__law_write⟩ := c.def_ 13 (d := mkD "_law_write" s__law_write) rfl
  have hc__law_write : fd__law_write.code = .ref (He.cT K ("_law_write", none)).1 := by
    obtain ⟨oc, od, dV, kV, doc, pm, an, cdv, ct, osl, rfl, lk, hcd, _, _⟩ := F__law_write.ex
    obtain ⟨cc, ec⟩ := He.codeIn_ref hcd
    have e2 := He.codeOf_eq (p := ("_law_write", none)) lk ec
    show cdv = _
    rw [ec, ← e2]
    rfl
  have DT__law_write : DfT K mg "_law_write" s__law_write P__law_write (He.cT K ("_law_write", none)).1 := dfT_of F__law_write hc__law_write (He.glo_ok X G (c.fact 13 (f := .glo "_law_write") rfl)) (FunD.bindsN F__law_write fun _ _ _ _ _ _ us hl => match us, hl with | [_, _, _], _ => rfl)
  obtain ⟨fd__law_is, F__law_is⟩ := c.def_ 15 (d := mkD "_law_is" s__law_is) rfl
  have hc__law_is : fd__law_is.code = .ref (He.cT K ("_law_is", none)).1 := by
    obtain ⟨oc, od, dV, kV, doc, pm, an, cdv, ct, osl, rfl, lk, hcd, _, _⟩ := F__law_is.ex
    obtain ⟨cc, ec⟩ := He.codeIn_ref hcd
    have e2 := He.codeOf_eq (p := ("_law_is", none)) lk ec
    show cdv = _
    rw [ec, ← e2]
    rfl
  have DT__law_is : DfT K mg "_law_is" s__law_is P__law_is (He.cT K ("_law_is", none)).1 := dfT_of F__law_is hc__law_is (He.glo_ok X G (c.fact 15 (f := .glo "_law_is") rfl)) (FunD.bindsN F__law_is fun _ _ _ _ _ _ us hl => match us, hl with | [_, _, _], _ => rfl)
  have hex := cx.more
  obtain ⟨hexE, hex⟩ := Bool.and_eq_true_iff.mp hex
  have KS : Kinds K mg (fun i => He.ga K (cnm i)) (He.ga K "ColumnError") := kinds_of hex (fun i hi => by
    match i, hi with
    | 0, _ => exact He.glo_ok X G (c.fact 17 (f := .glo "BadNumber") rfl)
    | 1, _ => exact He.glo_ok X G (c.fact 18 (f := .glo "BadValues") rfl)
    | 2, _ => exact He.glo_ok X G (c.fact 19 (f := .glo "NoForm") rfl)
    | 3, _ => exact He.glo_ok X G (c.fact 20 (f := .glo "BadPrices") rfl)
    | 4, _ => exact He.glo_ok X G (c.fact 21 (f := .glo "BadKinds") rfl)
    | 5, _ => exact He.glo_ok X G (c.fact 22 (f := .glo "BadRows") rfl)
    | 6, _ => exact He.glo_ok X G (c.fact 23 (f := .glo "BadCondition") rfl)
    | 7, _ => exact He.glo_ok X G (c.fact 24 (f := .glo "BadColumn") rfl)
    | 8, _ => exact He.glo_ok X G (c.fact 25 (f := .glo "BadHeap") rfl)
    | 9, _ => exact He.glo_ok X G (c.fact 26 (f := .glo "TooMany") rfl)
    | 10, _ => exact He.glo_ok X G (c.fact 27 (f := .glo "BadBlock") rfl)
    | 11, _ => exact He.glo_ok X G (c.fact 28 (f := .glo "Stopped") rfl)
    | 12, _ => exact He.glo_ok X G (c.fact 29 (f := .glo "BadText") rfl)
    | n + 13, h => exact absurd h (by omega)) (He.glo_ok X G (c.fact 30 (f := .glo "ColumnError") rfl))
  have DM_Disk___init__ : DfI K (He.ga K "Disk") "Disk.__init__" s_Disk___init__ P_Disk___init__ := by
    obtain ⟨fI, FI⟩ := c.def_ 17 rfl
    exact ⟨_, fI, FI, He.mkr_ok (c.fact 54 (f := .mkr "Disk") rfl), FunD.bindsN FI fun _ _ _ _ _ _ us hl => match us, hl with | [_], _ => rfl⟩
  have DM_Disk_write : DfM K (He.ga K "Disk") "write" "Disk.write" s_Disk_write P_Disk_write := by
    obtain ⟨fI, FI⟩ := c.def_ 18 rfl
    exact ⟨_, fI, FI, He.meth_ok (c.fact 61 (f := .meth "Disk" "write") rfl), FunD.bindsN FI fun _ _ _ _ _ _ us hl => match us, hl with | [_, _, _], _ => rfl⟩
  have DM_Disk_settle : DfM K (He.ga K "Disk") "settle" "Disk.settle" s_Disk_settle P_Disk_settle := by
    obtain ⟨fI, FI⟩ := c.def_ 19 rfl
    exact ⟨_, fI, FI, He.meth_ok (c.fact 62 (f := .meth "Disk" "settle") rfl), FunD.bindsN FI fun _ _ _ _ _ _ us hl => match us, hl with | [_], _ => rfl⟩
  have DM_Disk_read : DfM K (He.ga K "Disk") "read" "Disk.read" s_Disk_read P_Disk_read := by
    obtain ⟨fI, FI⟩ := c.def_ 20 rfl
    exact ⟨_, fI, FI, He.meth_ok (c.fact 63 (f := .meth "Disk" "read") rfl), FunD.bindsN FI fun _ _ _ _ _ _ us hl => match us, hl with | [_, _], _ => rfl⟩
  have DM_Disk_arm : DfM K (He.ga K "Disk") "arm" "Disk.arm" s_Disk_arm P_Disk_arm := by
    obtain ⟨fI, FI⟩ := c.def_ 21 rfl
    exact ⟨_, fI, FI, He.meth_ok (c.fact 64 (f := .meth "Disk" "arm") rfl), FunD.bindsN FI fun _ _ _ _ _ _ us hl => match us, hl with | [_, _, _], _ => rfl⟩
  have DM_Disk_stop : DfM K (He.ga K "Disk") "stop" "Disk.stop" s_Disk_stop P_Disk_stop := by
    obtain ⟨fI, FI⟩ := c.def_ 22 rfl
    exact ⟨_, fI, FI, He.meth_ok (c.fact 65 (f := .meth "Disk" "stop") rfl), FunD.bindsN FI fun _ _ _ _ _ _ us hl => match us, hl with | [_, _], _ => rfl⟩
  have DM_Disk_again : DfM K (He.ga K "Disk") "again" "Disk.again" s_Disk_again P_Disk_again := by
    obtain ⟨fI, FI⟩ := c.def_ 23 rfl
    exact ⟨_, fI, FI, He.meth_ok (c.fact 66 (f := .meth "Disk" "again") rfl), FunD.bindsN FI fun _ _ _ _ _ _ us hl => match us, hl with | [_], _ => rfl⟩
  have DM_Disk_blocks : DfM K (He.ga K "Disk") "blocks" "Disk.blocks" s_Disk_blocks P_Disk_blocks := by
    obtain ⟨fI, FI⟩ := c.def_ 24 rfl
    exact ⟨_, fI, FI, He.meth_ok (c.fact 67 (f := .meth "Disk" "blocks") rfl), FunD.bindsN FI fun _ _ _ _ _ _ us hl => match us, hl with | [_], _ => rfl⟩
  have DM_Disk_check_running : DfM K (He.ga K "Disk") "check_running" "Disk.check_running" s_Disk_check_running P_Disk_check_running := by
    obtain ⟨fI, FI⟩ := c.def_ 25 rfl
    exact ⟨_, fI, FI, He.meth_ok (c.fact 68 (f := .meth "Disk" "check_running") rfl), FunD.bindsN FI fun _ _ _ _ _ _ us hl => match us, hl with | [_], _ => rfl⟩
  have DM_Disk_spend_deed : DfM K (He.ga K "Disk") "spend_deed" "Disk.spend_deed" s_Disk_spend_deed P_Disk_spend_deed := by
    obtain ⟨fI, FI⟩ := c.def_ 26 rfl
    exact ⟨_, fI, FI, He.meth_ok (c.fact 69 (f := .meth "Disk" "spend_deed") rfl), FunD.bindsN FI fun _ _ _ _ _ _ us hl => match us, hl with | [_], _ => rfl⟩
  have X_BadBlock : ExcN K mg "BadBlock" (He.ga K "BadBlock") := by
    obtain ⟨x1, x2, x3, x4⟩ := He.exc_ok (c.fact 50 (f := .exc "BadBlock") rfl)
    exact ⟨He.glo_ok X G (c.fact 27 (f := .glo "BadBlock") rfl), x1, x2, x3, x4⟩
  have X_Stopped : ExcN K mg "Stopped" (He.ga K "Stopped") := by
    obtain ⟨x1, x2, x3, x4⟩ := He.exc_ok (c.fact 51 (f := .exc "Stopped") rfl)
    exact ⟨He.glo_ok X G (c.fact 28 (f := .glo "Stopped") rfl), x1, x2, x3, x4⟩
  have hn : ((TL3 (He.cT K ("law", none)).2 (He.cT K ("_law_write", none)).2 (He.cT K ("_law_is", none)).2).map Prod.fst).Nodup := of_decide_eq_true hexE
  have T4 : Txt4 mg := ⟨He.free_ok X G (c.fact 46 rfl), He.free_ok X G (c.fact 47 rfl), He.free_ok X G (c.fact 45 rfl)⟩
  have TE : TxtE mg := ⟨He.free_ok X G (c.fact 48 rfl)⟩
  have TD : TxtD mg := ⟨He.int_ok X G (c.fact 31 rfl), He.int_ok X G (c.fact 32 rfl), He.free_ok X G (c.fact 49 rfl)⟩
  have C_Disk : DiskC K mg (He.ga K "Disk") := ⟨He.cls_ok (c.fact 53 (f := .cls "Disk") rfl), He.noat_ok (c.fact 59 (f := .noat "Disk" "settled") rfl), He.noat_ok (c.fact 56 (f := .noat "Disk" "newest") rfl), He.noat_ok (c.fact 60 (f := .noat "Disk" "waiting") rfl), He.noat_ok (c.fact 58 (f := .noat "Disk" "running") rfl), He.noat_ok (c.fact 55 (f := .noat "Disk" "deeds") rfl), He.noat_ok (c.fact 57 (f := .noat "Disk" "picks") rfl), He.glo_ok X G (c.fact 52 (f := .glo "Disk") rfl)⟩
  have MK_Disk := ok_disk (P := P) (w := w) (base := base) T TD C_Disk DM_Disk___init__
  have X_chk : ∀ b, Fn P w K mg b (L2.CX P w) 1 "check_block" P_check_block (spCkB (He.ga K (cnm 10))) := fun b => ok_check_block T TD X_BadBlock D_check_block
  have G_wt : ∀ b, Fn P w K mg b CX0 1 "weight" P_weight (spWt K) := fun b => ok_weight T D_weight
  have M_ckr : ∀ b, Mth P w K mg b (L2.CX P w) 1 (He.ga K "Disk") "check_running" P_Disk_check_running (spCkR K (He.ga K "Disk") (He.ga K (cnm 11))) := fun b => ok_check_running C_Disk X_Stopped DM_Disk_check_running
  have M_stopA : ∀ b, Mth P w K mg b CX0 1 (He.ga K "Disk") "stop" P_Disk_stop (spStopA K (He.ga K "Disk")) := fun b => ok_stopA TD.b_zip C_Disk DM_Disk_stop
  have M_spend : ∀ b, Mth P w K mg b (L2.CX P w) 2 (He.ga K "Disk") "spend_deed" P_Disk_spend_deed (spSpend K (TL3 (He.cT K ("law", none)).2 (He.cT K ("_law_write", none)).2 (He.cT K ("_law_is", none)).2) (He.ga K "Disk") (He.ga K (cnm 11))) := fun b => ok_spend C_Disk X_Stopped DM_Disk_spend_deed (M_ckr b) (M_stopA b)
  have M_write := fun b => write_C (ok_write T TD C_Disk X_BadBlock DM_Disk_write (X_chk b) (G_wt b) (M_spend b))
  have M_settle := fun b => settle_C (ok_settle T C_Disk DM_Disk_settle (M_spend b))
  have M_read := fun b => ok_read (CS := He.ga K (cnm 11)) (CB := He.ga K (cnm 10)) T C_Disk DM_Disk_read (X_chk b) (M_ckr b)
  have M_blocks := ok_blocks (P := P) (w := w) (base := base) T C_Disk DM_Disk_blocks
  have M_stop := stop_T (T := TL3 (He.cT K ("law", none)).2 (He.cT K ("_law_write", none)).2 (He.cT K ("_law_is", none)).2) (M_stopA base)
  have M_arm := ok_arm (P := P) (w := w) (base := base) (T := TL3 (He.cT K ("law", none)).2 (He.cT K ("_law_write", none)).2 (He.cT K ("_law_is", none)).2) T C_Disk DM_Disk_arm
  have M_again := ok_again (P := P) (w := w) (base := base) (T := TL3 (He.cT K ("law", none)).2 (He.cT K ("_law_write", none)).2 (He.cT K ("_law_is", none)).2) T C_Disk DM_Disk_again
  have G_begun := ok_begun (P := P) (w := w) (K := K) (base := base) T D__law_begun
  have G_take := draw_of (T := TL3 (He.cT K ("law", none)).2 (He.cT K ("_law_write", none)).2 (He.cT K ("_law_is", none)).2) (ok_take (P := P) (w := w) (K := K) (base := base) T D__law_take)
  have G_alike := ok_alike (P := P) (w := w) (K := K) (base := base) T T4 D__law_alike 8
  have G_told : ∀ b, Fn P w K mg b CX0 5 "_law_told" P__law_told (spTold P w K mg 3 (fun i => He.ga K (cnm i)) b) := fun b => ok_toldB (k := 3) KS (ok_class T TE KS D__law_class) D__law_told
  have G_what := ok_what T D__law_what G_take (ok_nest T D__law_nest G_take 4)
  have G_wgh := ok_wgh (P := P) (w := w) (K := K) (base := base) T T4 D__law_weight 6
  have G_made := ok_made (P := P) (w := w) (base := base) (T := TL3 (He.cT K ("law", none)).2 (He.cT K ("_law_write", none)).2 (He.cT K ("_law_is", none)).2) D__law_made
  have G_fallA := ok_fallA (P := P) (w := w) (K := K) (base := base) T D__law_fall
  have G_fall := fall_T (T := TL3 (He.cT K ("law", none)).2 (He.cT K ("_law_write", none)).2 (He.cT K ("_law_is", none)).2) G_fallA
  have G_count := ok_count (T := TL3 (He.cT K ("law", none)).2 (He.cT K ("_law_write", none)).2 (He.cT K ("_law_is", none)).2) D__law_count G_fallA
  have G_write := ok_lwr (cs := fun i => He.ga K (cnm i)) tl_m2 hn T DT__law_write TB__law_write C_Disk G_told G_alike G_take G_what G_wgh G_count M_write
  have G_arms := ok_arms T D__law_arms C_Disk G_take G_fall M_arm M_stop M_again
  have G_is := ok_lis (cs := fun i => He.ga K (cnm i)) tl_m3 hn T DT__law_is TB__law_is C_Disk G_told G_alike G_take M_blocks M_read
  exact ok_lawD (cs := fun i => He.ga K (cnm i)) tl_m1 hn T F hcode_law TB_law C_Disk MK_Disk G_told G_alike G_begun G_take G_made G_count G_write G_arms G_is M_settle
end
end K3
open PySem PySem.W PySem.Calls PyProof.Rows
theorem PySem.Challenge.cw_codecolumns_k13_disks_holds : PySem.Challenge.rw_codecolumns_k13_disks.Holds := by
  w_on; o_law
  refine HandSHeadRun.head_any (r := OpenLaw.row PySem.Challenge.rw_codecolumns_k13_disks) (q := view (OpenLaw.row PySem.Challenge.rw_codecolumns_k13_disks).prog [37]) (H := K3.hk) (ob := K3.ob) (M := 9000) (loose := K3.looseL) (d := HandSHeadRun.topDef (OpenLaw.row PySem.Challenge.rw_codecolumns_k13_disks).prog 37) (kwd := []) K3.ob_eq
    (by kernel_rfl) (fun s => by kernel_rfl) K3.run (by kernel_rfl) (by kernel_rfl) (by kernel_rfl) (by rfl) (by first | assumption | decide +kernel) (by decide +kernel) ⟨rfl, rfl, rfl, rfl, rfl, by decide +kernel⟩ ?hw ?hc
  case hw => w_witness2
  case hc =>
    refine K3.walk_ofTE (l := PySem.Challenge.rw_codecolumns_k13_disks) (n := 63) (k := 11) (x := "_law_script") (CX := fun _ => L2.CX0) rfl (by decide) (by kernel_rfl) ⟨rfl, by decide, by decide⟩ ?F (fun _ _ _ _ _ z => z)
    intro w mg fa h Y G hmg0
    obtain ⟨K, KX, c⟩ := Y
    have hmg : mg ("law" : PySem.Str) = some (.ref fa) := by
      have e : (HandSHeadRun.topDef (OpenLaw.row PySem.Challenge.rw_codecolumns_k13_disks).prog 37).name = ("law" : PySem.Str) := by kernel_rfl
      rw [← e]
      exact hmg0
    obtain ⟨fd, hb, hF⟩ := K3.law_facts (P := (PySem.Challenge.rw_codecolumns_k13_disks).prog) (w := w) KX G hmg c
    refine ⟨K, KX, fd, K3.tfL.map (He.cT K), K3.spLawD K (K3.TL3 (He.cT K ("law", none)).2 (He.cT K ("_law_write", none)).2 (He.cT K ("_law_is", none)).2), fun p hp => ?_, fun p hp => ?_, fun p hp => ?_, hb, fun H a ns hl hbits hT hS => ?_, fun base kb nb TBs => hF base kb nb (TBs (He.cT K ("law", none)) (List.mem_map.mpr ⟨("law", none), by simp [K3.tfL], rfl⟩)) (TBs (He.cT K ("_law_write", none)) (List.mem_map.mpr ⟨("_law_write", none), by simp [K3.tfL], rfl⟩)) (TBs (He.cT K ("_law_is", none)) (List.mem_map.mpr ⟨("_law_is", none), by simp [K3.tfL], rfl⟩))⟩
    · obtain ⟨q, hq, e⟩ := List.mem_map.mp hp
      rw [← e]
      exact c.empty q hq
    · obtain ⟨q, hq, e⟩ := List.mem_map.mp hp
      rw [← e]
      exact c.out q hq
    · obtain ⟨q, hq, e⟩ := List.mem_map.mp hp
      rw [← e]
      exact codeHd_of_K KX (c.hd q hq)
    · exact ⟨a, ns, rfl, hS, hl, K3.tabs_start hT (fun q hq => by
        rcases K3.tl_in hq with rfl | rfl | rfl
        · exact ⟨He.cT K ("law", none), List.mem_map.mpr ⟨("law", none), by simp [K3.tfL], rfl⟩, rfl⟩
        · exact ⟨He.cT K ("_law_write", none), List.mem_map.mpr ⟨("_law_write", none), by simp [K3.tfL], rfl⟩, rfl⟩
        · exact ⟨He.cT K ("_law_is", none), List.mem_map.mpr ⟨("_law_is", none), by simp [K3.tfL], rfl⟩, rfl⟩), fun _ => rfl⟩
