import PyProof.Rows.All
import Wide.All
import OpenK.AllK
import Wide.FinOn
import HandS.ForMost
import HandS.Exc
import HandS.TryOnly
import HandS.ExcOwn
import HandS.WordsExc
import HandS.Defaults
import HandS.Style
import HandS.Strs
import HandS.SetFor
import HandS.SortInts
import HandS.IsInst
import HandS.CallLocal
import HandS.FStr
import HandS.Rev
import HandS.TupAny
import HandS.Walk
import HandS.HeadEnd
import HandS.HeadHook3
import PySem.Challenge.RW_codecolumns_k02_five_forms
import KE.KEqSeq
import HandS.Wide
import HandS.ReCall
import HandS.RaiseMore
import HandS.HotCalls
import HandS.Lambda
import HandS.EndTab
import HandS.HeadHook4
import KE.KExcIs
import HandS.ExcIs
import HandS.ExcField
import KE.KDflt
import HandS.ExcInit
import HandS.ClsMeth
import KE.GoesEnum
import HandS.Iter
import KE.DatumMoreOrd
import KE.DatumOrd
import KE.DataEq
import HandS.Evl
import HandS.Head0
import HandS.Head1
import HandS.Head2
import HandS.HeadHook1
import HandS.HeadHook2
import HandS.More
set_option Elab.async false
set_option linter.all false
set_option maxRecDepth 100000
namespace K3
open PySem PySem.Spec PyProof.Rows L2
def top (i : Nat) : Stmt := PySem.Challenge.pw_codecolumns_k02_five_forms.main.body.getD i (.Pass ⟨0, 0, 0, 0⟩)

/-- a def that keeps its promise, by its name -/
structure Fn (P : Program) (w : World) (K : PySem.W.Frag) (mg : Str → Option Value) (base : Heap) (CX : CXT) (k : Nat) (x : Str) (ps : List Str) (sp : Sp) : Prop where
  ex : ∃ (f : Addr) (fd : FuncData), FnOk P w K mg base CX k f fd ps sp ∧ mg x = some (.ref f) ∧ PySem.W.keepIn K (.ref f) = true ∧ Binds K fd ps []
/-- a def as it stands behind the top, by its name -/
structure Df (K : PySem.W.Frag) (mg : Str → Option Value) (x : Str) (st : Stmt) (ps : List Str) : Prop where
  ex : ∃ (f : Addr) (fd : FuncData), FunD K x x (defArgs st) (defBody st) (defScope st) [] [] f fd ∧ mg x = some (.ref f) ∧ Binds K fd ps []
section
variable {X : Cx} {CX : CXT} {k : Nat} {ps : List Str} {sp : Sp} {E : XK} {x : Str} {p pos : Pos} {e : Expr} {es : List Expr} {t : TA}
theorem pe_c (F : Fn X.prog X.w X.K X.mg X.base CX k x ps sp) (hr : Room k X.A) (hx : Passes CX X E) (ha : PA X (e :: es) t) (hg : Gl X x := by rfl) (hdb : (x == ("__debug__" : Str)) = false := by decide)
    (he : starEach (e :: es) X.env = (false, eval e X.env) :: starEach es X.env := by rfl) (hpl : (backTo pos (starEach es X.env)).any (·.1) = false := by rfl) : PE X (.Call (.Name x p) (e :: es) [] pos) (tCall sp [] E t) := by
  obtain ⟨f, fd, G, hm, hk, hb⟩ := F.ex
  exact pe_call G hr hg hm hk hb .nil hx ha hdb he hpl
theorem pe_gint {i : Int} (h : ∃ t, X.mg x = some (.int i t)) (hg : Gl X x := by rfl) (hd : (x == ("__debug__" : Str)) = false := by decide) : PE X (.Name x pos) (tC (.int i)) := by
  obtain ⟨t, h⟩ := h
  exact pe_glob hg h ⟨t, rfl⟩ hd
end
section
variable {P : Program} {w : World} {K : PySem.W.Frag} {mg : Str → Option Value} {base : Heap}
/-- THE RULE for a def that raises nothing -/
theorem Df.ok {x : Str} {st : Stmt} {N ps : List Str} {k : Nat} {sp : Sp} (D : Df K mg x st ps) (S : FnScope N ps (defScope st)) (len : ∀ vs H Q E, sp vs H Q E → vs.length = ps.length)
    (hbody : ∀ (f : Addr) (cdv : Value) (A : Around) (outer : List Env) (s : Shared) (H : Hp) (vs : List V) (Q : VK) (E : XK), Room k (A.deeper (envOfC x (defScope st) s.heap.objs.size f cdv)) → sp vs H Q E →
      ∃ t, PSs (cxOf CX0 P w K mg base N x (defScope st) f cdv A outer s H E).nox (defBody st) t ∧ t { nx := fun _ H' => Q .non H', rt := Q } (start N vs) H) : Fn P w K mg base CX0 (k + 1) x ps sp := by
  obtain ⟨f, fd, F, hm, hb⟩ := D.ex
  refine ⟨f, fd, F.ok S len fun cdv A outer s H vs Q E hr hsp => ?_, hm, F.kp, hb⟩
  obtain ⟨t, h, q⟩ := hbody f cdv A outer s H vs Q E hr hsp
  exact ⟨t, h.nox, q⟩
/-- .. for one that may raise -/
theorem Df.okX {x : Str} {st : Stmt} {N ps : List Str} {k : Nat} {sp : Sp} (D : Df K mg x st ps) (S : FnScope N ps (defScope st)) (len : ∀ vs H Q E, sp vs H Q E → vs.length = ps.length)
    (hbody : ∀ (f : Addr) (cdv : Value) (A : Around) (outer : List Env) (s : Shared) (H : Hp) (vs : List V) (Q : VK) (E : XK), Room k (A.deeper (envOfC x (defScope st) s.heap.objs.size f cdv)) → sp vs H Q E →
      ∃ t, PSs (cxOf (L2.CX P w) P w K mg base N x (defScope st) f cdv A outer s H E) (defBody st) t ∧ t { nx := fun _ H' => Q .non H', rt := Q } (start N vs) H) : Fn P w K mg base (L2.CX P w) (k + 1) x ps sp := by
  obtain ⟨f, fd, F, hm, hb⟩ := D.ex
  exact ⟨f, fd, F.ok S len fun cdv A outer s H vs Q E hr hsp => hbody f cdv A outer s H vs Q E hr hsp, hm, F.kp, hb⟩
end
/-- what the top has written besides its defs -/
structure Txt (mg : Str → Option Value) : Prop where
  c_LEAST_BASE : ∃ t, mg "LEAST_BASE" = some (.int 2 t)
  c_CELL_SIZE : ∃ t, mg "CELL_SIZE" = some (.int 10000 t)
  c_MOST_VALUES : ∃ t, mg "MOST_VALUES" = some (.int 32 t)
  c_MOST : ∃ t, mg "MOST" = some (.int 9999 t)
  b_len : mg "len" = none
  b_tuple : mg "tuple" = none
  b_list : mg "list" = none
  b_int : mg "int" = none
  b_range : mg "range" = none
  b_enumerate : mg "enumerate" = none
  b_reversed : mg "reversed" = none
  b_min : mg "min" = none
  b_max : mg "max" = none
  b_set : mg "set" = none
  b_sorted : mg "sorted" = none
  b_isinstance : mg "isinstance" = none
/-! ### heaps -/
theorem _root_.L2.Same.upd {H : Hp} {p : Addr} {o : HO} (h : H p = none) : Same H (upd H p o) := fun b u e => by rw [upd_ne (ne_of_none e h)]; exact e
theorem _root_.L2.Same.upd' {H H1 : Hp} {p : Addr} {o : HO} (s : Same H H1) (h : H1 p = none) : Same H (L2.upd H1 p o) := s.trans (Same.upd h)
theorem _root_.L2.Same.seqT {K : PySem.W.Frag} {H H' : Hp} {a : Addr} {xs : List V} (e : Same H H') (h : SqT K H a xs) : SqT K H' a xs := by
  rcases h with (h | ⟨o, h⟩) | h
  · exact .inl (.inl (e _ _ h))
  · exact .inl (.inr ⟨o, e _ _ h⟩)
  · exact .inr h
end K3

set_option linter.all false
/-! K3M: numbers packed in cells, in plain Lean -/
namespace K3
/-- how many numbers below b a cell holds: f turns left, r the reach -/
def perGo (b : Int) : Nat → Int → Nat
  | 0, _ => 0
  | f + 1, r => if r ≤ 10000 then 1 + perGo b f (r * b) else 0
def perC (b : Int) : Nat := perGo b 14 b
theorem perC_pos {b : Int} (h : b ≤ 10000) : 1 ≤ perC b := by
  show 1 ≤ (if b ≤ 10000 then 1 + perGo b 13 (b * b) else 0)
  rw [if_pos h]; omega
theorem perGo_le (b : Int) : ∀ (f : Nat) (r : Int), perGo b f r ≤ f
  | 0, _ => Nat.le_refl 0
  | f + 1, r => by
    have ih := perGo_le b f (r * b)
    show (if r ≤ 10000 then 1 + perGo b f (r * b) else 0) ≤ f + 1
    split <;> omega
theorem perC_le (b : Int) : perC b ≤ 14 := perGo_le b 14 b
/-- what the while keeps: m counted, r reached, f turns left -/
structure PerAt (b : Int) (m : Nat) (r : Int) (f : Nat) : Prop where
  sum : perC b = m + perGo b f r
  big : (2 : Int) ^ (15 - f) ≤ r
  few : f ≤ 14
theorem PerAt.start {b : Int} (h : 2 ≤ b) : PerAt b 0 b 14 := ⟨by rw [Nat.zero_add]; rfl, by simpa using h, Nat.le_refl _⟩
theorem PerAt.pos {b : Int} {m : Nat} {r : Int} {f : Nat} (h : PerAt b m r f) : 0 < r := Int.lt_of_lt_of_le (Int.pow_pos (by decide)) h.big
theorem PerAt.turn {b : Int} {m : Nat} {r : Int} {f : Nat} (h : PerAt b m r f) (hb : 2 ≤ b) (hr : r ≤ 10000) : ∃ f', PerAt b (m + 1) (r * b) f' := by
  cases f with
  | zero =>
    have h1 := h.big
    have h2 : (2 : Int) ^ (15 - 0) = 32768 := by decide
    omega
  | succ f =>
    refine ⟨f, ?_, ?_, by have := h.few; omega⟩
    · have h1 := h.sum
      have h2 : perGo b (f + 1) r = 1 + perGo b f (r * b) := if_pos hr
      rw [h1, h2]; omega
    · have h1 := h.big
      have h3 := h.few
      have e : 15 - f = (15 - (f + 1)) + 1 := by omega
      rw [e, Int.pow_succ]
      have h0 : (0 : Int) ≤ 2 ^ (15 - (f + 1)) := Int.le_of_lt (Int.pow_pos (by decide))
      exact Int.mul_le_mul h1 hb (by decide) (Int.le_trans h0 h1)
theorem PerAt.done {b : Int} {m : Nat} {r : Int} {f : Nat} (h : PerAt b m r f) (hr : ¬ r ≤ 10000) : perC b = m := by
  rw [h.sum]
  cases f with
  | zero => rfl
  | succ f =>
    show m + (if r ≤ 10000 then 1 + perGo b f (r * b) else 0) = m
    rw [if_neg hr]; rfl
/-- a cell of numbers, the first counts as it is -/
def val (b : Int) : List Int → Int
  | [] => 0
  | n :: r => val b r * b + n
def digits (b : Int) : Nat → Int → List Int
  | 0, _ => []
  | k + 1, c => (c % b) :: digits b k (c / b)
def restOf (b : Int) : Nat → Int → Int
  | 0, c => c
  | k + 1, c => restOf b k (c / b)
theorem restOf_succ (b : Int) : ∀ (k : Nat) (c : Int), restOf b (k + 1) c = restOf b k c / b
  | 0, _ => rfl
  | k + 1, c => restOf_succ b k (c / b)
theorem digits_succ (b : Int) : ∀ (k : Nat) (c : Int), digits b (k + 1) c = digits b k c ++ [restOf b k c % b]
  | 0, _ => rfl
  | k + 1, c => by
    show (c % b) :: digits b (k + 1) (c / b) = (c % b) :: (digits b k (c / b) ++ [restOf b k (c / b) % b])
    rw [digits_succ b k (c / b)]
theorem digits_length (b : Int) : ∀ (k : Nat) (c : Int), (digits b k c).length = k
  | 0, _ => rfl
  | k + 1, c => by
    show (digits b k (c / b)).length + 1 = k + 1
    rw [digits_length b k]
theorem val_digit {b n v : Int} (hn : 0 ≤ n) (hb : n < b) : (v * b + n) % b = n ∧ (v * b + n) / b = v := by
  have h0 : b ≠ 0 := by omega
  constructor
  · rw [Int.add_comm, Int.add_mul_emod_self_right]
    exact Int.emod_eq_of_lt hn hb
  · rw [Int.add_comm, Int.add_mul_ediv_right _ _ h0, Int.ediv_eq_zero_of_lt hn hb, Int.zero_add]
theorem digits_zero (b : Int) : ∀ k, digits b k 0 = List.replicate k 0
  | 0 => rfl
  | k + 1 => by
    show (0 % b) :: digits b k (0 / b) = List.replicate (k + 1) 0
    rw [Int.zero_emod, Int.zero_ediv, digits_zero b k]; rfl
theorem digits_val {b : Int} : ∀ (ns : List Int) (k : Nat), (∀ n ∈ ns, 0 ≤ n ∧ n < b) → ns.length ≤ k → digits b k (val b ns) = ns ++ List.replicate (k - ns.length) 0
  | [], k, _, _ => by rw [List.nil_append, List.length_nil, Nat.sub_zero]; exact digits_zero b k
  | n :: r, 0, _, h => absurd h (by simp)
  | n :: r, k + 1, hb, hl => by
    obtain ⟨h1, h2⟩ := val_digit (v := val b r) (hb n (List.mem_cons_self ..)).1 (hb n (List.mem_cons_self ..)).2
    show ((val b r * b + n) % b) :: digits b k ((val b r * b + n) / b) = _
    rw [h1, h2, digits_val r k (fun m hm => hb m (List.mem_cons_of_mem _ hm)) (by simpa using hl)]
    simp
/-- the cells, k numbers each -/
def pack (b : Int) (k : Nat) : Nat → List Int → List Int
  | 0, _ => []
  | _ + 1, [] => []
  | f + 1, n :: r => val b ((n :: r).take k) :: pack b k f ((n :: r).drop k)
def packed (b : Int) (ns : List Int) : List Int := pack b (perC b) ns.length ns
theorem pack_nil (b : Int) (k : Nat) : ∀ f, pack b k f [] = []
  | 0 => rfl
  | _ + 1 => rfl
/-- the i-th cell -/
theorem pack_get (b : Int) {k : Nat} (hk : 1 ≤ k) : ∀ (f : Nat) (ns : List Int) (i : Nat), ns.length ≤ f → (pack b k f ns)[i]? = if i * k < ns.length then some (val b ((ns.drop (i * k)).take k)) else none
  | 0, ns, i, h => by
    have e : ns = [] := List.length_eq_zero_iff.mp (by omega)
    subst e
    simp [pack]
  | f + 1, [], i, h => by simp [pack]
  | f + 1, n :: r, 0, h => by simp [pack]
  | f + 1, n :: r, i + 1, h => by
    show (pack b k f ((n :: r).drop k))[i]? = _
    have hl : ((n :: r).drop k).length ≤ f := by rw [List.length_drop]; simp at h ⊢; omega
    rw [pack_get b hk f _ i hl, List.length_drop, List.drop_drop]
    have e : k + i * k = (i + 1) * k := by rw [Nat.add_mul, Nat.one_mul, Nat.add_comm]
    rw [e]
    by_cases c : (i + 1) * k < (n :: r).length
    · rw [if_pos c, if_pos (by omega)]
    · rw [if_neg c, if_neg (by omega)]
theorem pack_length (b c : Int) (k : Nat) : ∀ (f : Nat) (ns ms : List Int), ns.length = ms.length → (pack b k f ns).length = (pack c k f ms).length
  | 0, _, _, _ => rfl
  | _ + 1, [], [], _ => rfl
  | _ + 1, [], _ :: _, h => by simp at h
  | _ + 1, _ :: _, [], h => by simp at h
  | f + 1, n :: r, m :: q, h => by
    show (pack b k f ((n :: r).drop k)).length + 1 = (pack c k f ((m :: q).drop k)).length + 1
    rw [pack_length b c k f ((n :: r).drop k) ((m :: q).drop k) (by rw [List.length_drop, List.length_drop, h])]
theorem pack_le (b : Int) {k : Nat} (hk : 1 ≤ k) : ∀ (f : Nat) (ns : List Int), (pack b k f ns).length ≤ ns.length
  | 0, _ => Nat.zero_le _
  | _ + 1, [] => Nat.le_refl _
  | f + 1, n :: r => by
    have ih := pack_le b hk f ((n :: r).drop k)
    rw [List.length_drop] at ih
    show (pack b k f ((n :: r).drop k)).length + 1 ≤ (n :: r).length
    simp at ih ⊢; omega
/-- read again -/
theorem unpack {b : Int} {k : Nat} (hk : 1 ≤ k) : ∀ (f : Nat) (ns : List Int), ns.length ≤ f → (∀ n ∈ ns, 0 ≤ n ∧ n < b) → ∃ z, (pack b k f ns).flatMap (digits b k) = ns ++ List.replicate z 0
  | 0, ns, h, _ => by
    have e : ns = [] := List.length_eq_zero_iff.mp (by omega)
    subst e
    exact ⟨0, rfl⟩
  | f + 1, [], _, _ => ⟨0, rfl⟩
  | f + 1, n :: r, h, hb => by
    have hl : ((n :: r).drop k).length ≤ f := by rw [List.length_drop]; simp at h ⊢; omega
    obtain ⟨z, e⟩ := unpack hk f ((n :: r).drop k) hl fun m hm => hb m (List.mem_of_mem_drop hm)
    show ∃ z, (val b ((n :: r).take k) :: pack b k f ((n :: r).drop k)).flatMap (digits b k) = _
    rw [List.flatMap_cons, e, digits_val _ k (fun m hm => hb m (List.mem_of_mem_take hm)) (by rw [List.length_take]; omega)]
    by_cases c : k ≤ (n :: r).length
    · refine ⟨z, ?_⟩
      rw [List.length_take, Nat.min_eq_left c, Nat.sub_self, List.replicate_zero, List.append_nil, ← List.append_assoc, List.take_append_drop]
    · have c' : (n :: r).length ≤ k := by omega
      rw [List.take_of_length_le c', List.drop_of_length_le c', List.nil_append, List.append_assoc, List.replicate_append_replicate]
      exact ⟨_, rfl⟩
theorem unpacked_packed {b : Int} (hb : b ≤ 10000) (ns : List Int) (h : ∀ n ∈ ns, 0 ≤ n ∧ n < b) : ((packed b ns).flatMap (digits b (perC b))).take ns.length = ns := by
  obtain ⟨z, e⟩ := unpack (perC_pos hb) ns.length ns (Nat.le_refl _) h
  show ((pack b (perC b) ns.length ns).flatMap (digits b (perC b))).take ns.length = ns
  rw [e, List.take_left']
  rfl
end K3
namespace K3
theorem val_step (b : Int) {ns : List Int} {i : Nat} {x : Int} (hi : i < ns.length) (h : ns[ns.length - 1 - i]? = some x) : val b (ns.drop (ns.length - (i + 1))) = val b (ns.drop (ns.length - i)) * b + x := by
  have e : ns.length - 1 - i = ns.length - (i + 1) := by omega
  rw [e] at h
  obtain ⟨hl, hx⟩ := List.getElem?_eq_some_iff.mp h
  rw [List.drop_eq_getElem_cons hl, hx]
  have e2 : ns.length - (i + 1) + 1 = ns.length - i := by omega
  rw [e2]
  rfl
/-- how many cells -/
def cells (k n : Nat) : Nat := (n + k - 1) / k
theorem cells_lt {k n i : Nat} (hk : 1 ≤ k) : i < cells k n ↔ i * k < n := by
  unfold cells
  constructor
  · intro h
    have h1 : (i + 1) * k ≤ n + k - 1 := Nat.le_trans (Nat.mul_le_mul_right k h) (Nat.div_mul_le_self _ _)
    rw [Nat.add_mul, Nat.one_mul] at h1
    omega
  · intro h
    refine (Nat.le_div_iff_mul_le (by omega)).mpr ?_
    rw [Nat.succ_mul]
    omega
theorem packed_eq {b : Int} (hb : b ≤ 10000) (ns : List Int) : (List.range (cells (perC b) ns.length)).map (fun i => val b ((ns.drop (i * perC b)).take (perC b))) = packed b ns := by
  have hk := perC_pos hb
  apply List.ext_getElem?
  intro i
  unfold packed
  rw [pack_get b hk _ _ _ (Nat.le_refl _), List.getElem?_map]
  by_cases c : i < cells (perC b) ns.length
  · rw [if_pos ((cells_lt hk).mp c), List.getElem?_range c]
    rfl
  · rw [if_neg (fun z => c ((cells_lt hk).mpr z)), List.getElem?_eq_none (by rw [List.length_range]; omega)]
    rfl
theorem cells_le {k n : Nat} (hk : 1 ≤ k) : cells k n ≤ n := by
  rcases Nat.lt_or_ge n (cells k n) with h | h
  · have := (cells_lt hk).mp h
    have h2 : n * 1 ≤ n * k := Nat.mul_le_mul_left n hk
    omega
  · exact h
end K3
namespace K3
theorem flat_length (b : Int) (k : Nat) : ∀ cs : List Int, (cs.flatMap (digits b k)).length = cs.length * k
  | [] => by simp
  | c :: r => by
    rw [List.flatMap_cons, List.length_append, digits_length, flat_length b k r, List.length_cons, Nat.succ_mul, Nat.add_comm]
end K3

set_option Elab.async false
set_option linter.all false
set_option maxRecDepth 100000
set_option maxHeartbeats 4000000
namespace K3
open PySem PySem.Spec PyProof.Rows L2
theorem map_at {α : Type} {f : α → V} {l : List α} {i : Nat} {y : V} (h : (l.map f)[i]? = some y) : ∃ z, l[i]? = some z ∧ y = f z := by
  rw [List.getElem?_map] at h
  cases e : l[i]? with
  | none =>
    rw [e] at h
    cases h
  | some z =>
    rw [e] at h
    exact ⟨z, rfl, (Option.some.inj h).symm⟩
theorem take_more {α : Type} : ∀ {l : List α} {i : Nat} {x : α}, l[i]? = some x → l.take (i + 1) = l.take i ++ [x]
  | [], i, x, h => by simp at h
  | a :: l, 0, x, h => by
    obtain rfl : a = x := Option.some.inj h
    rfl
  | a :: l, i + 1, x, h => by
    rw [List.take_succ_cons, take_more (l := l) (i := i) (x := x) h, List.take_succ_cons]
    rfl
theorem _root_.L2.Same.put {H H1 : Hp} {p : Addr} {o : HO} (s : Same H H1) (n : H p = none) : Same H (L2.upd H1 p o) := fun b u e => by
  rw [upd_ne (ne_of_none e n)]
  exact s b u e
theorem cutV_take (xs : List V) (m : Nat) : cutV xs none (some (m : Int)) = xs.take m := by
  unfold cutV
  rw [HT.sIx_none, HT.sIx_nat, Nat.sub_zero, List.drop_zero]
  by_cases c : m ≤ xs.length
  · rw [Nat.min_eq_left c]
  · rw [Nat.min_eq_right (by omega), List.take_length, List.take_of_length_le (by omega)]
theorem cutV_part (xs : List V) (i k : Nat) : cutV xs (some (i : Int)) (some ((i : Int) + (k : Int))) = (xs.drop i).take k := by
  have e : (i : Int) + (k : Int) = ((i + k : Nat) : Int) := by omega
  unfold cutV
  rw [e, HT.sIx_nat, HT.sIx_nat]
  by_cases c : i ≤ xs.length
  · rw [Nat.min_eq_left c]
    by_cases d : i + k ≤ xs.length
    · rw [Nat.min_eq_left d, Nat.add_sub_cancel_left]
    · rw [Nat.min_eq_right (by omega), List.take_of_length_le (by rw [List.length_drop]; omega), List.take_of_length_le (by rw [List.length_drop]; omega)]
  · rw [Nat.min_eq_right (by omega), Nat.min_eq_right (by omega), Nat.sub_self, List.take_zero, List.drop_of_length_le (by omega), List.take_nil]
theorem rgC_up {n k : Nat} (hk : 1 ≤ k) (hk2 : k < 1000000) (hn : n < 1000000) : RgC 0 (n : Int) (k : Int) (cells k n) := by
  have e : Builtin.Range.rangeSize 0 (n : Int) (k : Int) = ((cells k n : Nat) : Int) := by
    rw [rangeSize_pos (by omega) (by omega)]
    unfold cells
    rw [Int.natCast_ediv]
    congr 1
    omega
  have hc := cells_le (n := n) hk
  refine ⟨by omega, by omega, ?_, e⟩
  unfold Builtin.Range.small
  rw [e]
  simp only [Builtin.Range.rangeFitsLong, Bool.and_eq_true, Bool.or_eq_true, decide_eq_true_eq, beq_iff_eq, show ((k : Int) > 0) by omega, if_true]
  omega
/-- a comprehension of one name without an if, over any walk -/
theorem lc_all {J : It} {n : Nat} {G : Hp → Prop} {Y : Nat → Hp → V → Hp → Prop} (w : Walk J n G Y) {j : Nat} {te : TE} {σ : L2.St} {H1 : Hp} {D : Addr} {Qd : Hp → Prop} (Pv : Nat → Hp → Prop) (h0 : Pv 0 (L2.upd H1 D (.lst []))) (hG : ∀ i H, i ≤ n → Pv i H → G H)
    (hs : ∀ i x H H', i < n → Pv i H → Y i H x H' → te (σ.set j (some x)) H' fun y H4 => ∃ acc, H4 D = some (.lst acc) ∧ acc.length < sizeLine ∧ Pv (i + 1) (L2.upd H4 D (.lst (acc ++ [y])))) (hd : ∀ H, Pv n H → Qd H) :
    ∃ W : Nat → Nat → Hp → Prop, (∃ m, W 0 m (L2.upd H1 D (.lst []))) ∧ ∀ i m H, W i m H →
      (J.stop i H ∧ Qd H) ∨ (J.go i H ∧ ∃ Nx : Hp → Prop, (∀ H', Nx H' → ∃ m', m' < m ∧ W (i + 1) m' H') ∧ ∀ x H', J.yld i H x H' → gName j x (wipe σ [j]) H' fun σ2 H2 => wipe σ2 [j] = wipe σ [j] ∧ tYes σ2 H2 fun b H3 =>
        if b = true then te σ2 H3 fun y H4 => ∃ acc, H4 D = some (.lst acc) ∧ acc.length < sizeLine ∧ Nx (L2.upd H4 D (.lst (acc ++ [y]))) else Nx H3) := by
  refine lc_it w Pv h0 hG (fun i x H H' hi p y => ?_) hd
  have q := hs i x H H' hi p y
  have e : (wipe σ [j]).set j (some x) = σ.set j (some x) := by
    show (σ.set j none).set j (some x) = σ.set j (some x)
    rw [List.set_set]
  refine ⟨?_, ?_⟩
  · show ((σ.set j none).set j (some x)).set j none = σ.set j none
    rw [List.set_set, List.set_set]
  · show (if true = true then te ((wipe σ [j]).set j (some x)) H' (fun y H4 => ∃ acc, H4 D = some (.lst acc) ∧ acc.length < sizeLine ∧ Pv (i + 1) (L2.upd H4 D (.lst (acc ++ [y])))) else Pv (i + 1) H')
    rw [e, if_pos rfl]
    exact q
theorem sl_listK {X : Cx} {K : PySem.W.Frag} (e : X.K = K) : SlR X (rSlL K) := by
  subst e
  exact sl_list
section
variable {P : Program} {w : World} {K : PySem.W.Frag} {mg : Str → Option Value} {base : Heap}
abbrev s_per_cell : Stmt := top 18
abbrev N_per_cell : List Str := ["base", "many", "reach"]
abbrev P_per_cell : List Str := ["base"]
theorem sc_per_cell : FnScope N_per_cell P_per_cell (defScope s_per_cell) := ⟨rfl, rfl, rfl, by decide +kernel, rfl, by decide +kernel, by decide +kernel⟩
def spPer : Sp := fun vs H Q _ => ∃ b : Int, vs = [.int b] ∧ 2 ≤ b ∧ b ≤ 10000 ∧ Q (.int (perC b)) H
def reach : L2.St → Nat
  | [_, _, some (.int r)] => (10001 - r).toNat
  | _ => 0
theorem ok_per_cell (T : Txt mg) (D : Df K mg "per_cell" s_per_cell P_per_cell) : Fn P w K mg base CX0 1 "per_cell" P_per_cell spPer := by
  refine D.ok sc_per_cell (fun vs H Q E h => ?_) (fun f cdv A outer s H vs Q E hr h => ?_)
  · obtain ⟨b, rfl, _⟩ := h
    rfl
  · obtain ⟨b, rfl, h2, h1, k⟩ := h
    have nd := sc_per_cell.nd
    refine ⟨_, (pss_cons (ps_if (PW.pt (pw_or (pt_cmpR op_lt (pv 0) (pe_gint T.c_LEAST_BASE) (nomark _)) (pw_or1 (pt_cmpR op_gt (pv 0) (pe_gint T.c_CELL_SIZE) (nomark _)))))
  (pss_one ps_never)
  pss_nil)
  (pss_cons (ps_set (i := 1) nd rfl (by first | exact Or.inl rfl | exact Or.inr rfl) pe_int)
  (pss_cons (ps_set (i := 2) nd rfl (by first | exact Or.inl rfl | exact Or.inr rfl) (pv 0))
  (pss_cons (ps_while PassesOwn.never (pt_cmpR op_le (pv 2) (pe_gint T.c_CELL_SIZE) (nomark _))
  (pss_cons (ps_aug (i := 1) nd rfl (by first | exact Or.inl rfl | exact Or.inr rfl) pe_int ip_add)
  (pss_one (ps_aug (i := 2) nd rfl (by first | exact Or.inl rfl | exact Or.inr rfl) (pv 0) iop_mul))))
  (pss_one (ps_ret (pv 1))))))), ?_⟩
    refine ⟨_, rfl, _, _, rfl, rfl, _, rfl, ?_⟩
    refine ite2 (fun c => absurd (of_decide_eq_true c) (by omega)) (fun _ => ?_)
    refine ⟨_, rfl, _, _, rfl, rfl, _, rfl, ?_⟩
    refine ite2 (fun c => absurd (of_decide_eq_true c) (by omega)) (fun _ => ?_)
    refine ⟨_, rfl, ?_⟩
    refine while_by (fun σ H' => ∃ (m : Nat) (r : Int) (f : Nat), σ = [some (.int b), some (.int m), some (.int r)] ∧ PerAt b m r f ∧ H' = H) (fun σ _ => reach σ) ⟨0, b, 14, rfl, .start h2, rfl⟩ ?_ (fun σ H Q Q' im h => ?_)
    · rintro σ H' ⟨m, r, f, rfl, A, rfl⟩
      refine ⟨_, rfl, _, _, rfl, rfl, _, rfl, ?_⟩
      refine ite2 (fun c => ?_) (fun c => ?_)
      · have c' : r ≤ 10000 := of_decide_eq_true c
        obtain ⟨f', A'⟩ := A.turn h2 c'
        refine ⟨_, rfl, _, _, rfl, rfl, _, rfl, _, rfl, _, _, rfl, rfl, .inr (by constructor <;> omega), ?_⟩
        have p1 := A.pos
        have p2 := A'.pos
        have p3 : r * 2 ≤ r * b := Int.mul_le_mul_of_nonneg_left h2 (by omega)
        refine ⟨⟨m + 1, r * b, f', rfl, A', rfl⟩, ?_⟩
        show (10001 - r * b).toNat < (10001 - r).toNat
        omega
      · have c' : ¬ r ≤ 10000 := fun z => c (decide_eq_true z)
        refine ⟨_, rfl, ?_⟩
        rw [A.done c'] at k
        exact k
    · obtain ⟨v, e, i, j, e1, e2, kk, e3, q⟩ := h
      exact ⟨v, e, i, j, e1, e2, kk, e3, im _ _ q⟩

abbrev s_check_below : Stmt := top 21
abbrev N_check_below : List Str := ["limit", "numbers", "place", "number"]
abbrev P_check_below : List Str := ["limit", "numbers"]
theorem sc_check_below : FnScope N_check_below P_check_below (defScope s_check_below) := ⟨rfl, rfl, rfl, by decide +kernel, rfl, by decide +kernel, by decide +kernel⟩
def spChk (K : PySem.W.Frag) : Sp := fun vs H Q _ => ∃ (b : Int) (a : Addr) (ns : List Int), vs = [.int b, .ref a] ∧ SqL K H a (ns.map V.int) ∧ (∀ n ∈ ns, 0 ≤ n ∧ n < b) ∧ ∀ H', Same H H' → Q .non H'
theorem ok_check_below (T : Txt mg) (D : Df K mg "check_below" s_check_below P_check_below) : Fn P w K mg base CX0 1 "check_below" P_check_below (spChk K) := by
  refine D.ok sc_check_below (fun vs H Q E h => ?_) (fun f cdv A outer s H vs Q E hr h => ?_)
  · obtain ⟨b, a, ns, rfl, _⟩ := h
    rfl
  · obtain ⟨b, a, ns, rfl, hS, hb, k⟩ := h
    have nd := sc_check_below.nd
    refine ⟨_, (pss_one (ps_for PassesOwn.never rfl (pi_enum (by rfl) T.b_enumerate (pa_cons (pv 1) pa_nil)) (pg_tup (by rfl) (pgs_cons (pg_name (i := 2) nd rfl (by first | exact Or.inl rfl | exact Or.inr rfl)) (pgs_cons (pg_name (i := 3) nd rfl (by first | exact Or.inl rfl | exact Or.inr rfl)) pgs_nil)))
  (pss_one (ps_if (PW.pt (pw_or (pt_cmpR op_lt (pv 3) pe_int (nomark _)) (pw_or1 (pt_cmpR op_ge (pv 3) (pv 0) (nomark _)))))
  (pss_one ps_never)
  pss_nil)))), ?_⟩
    refine ⟨_, rfl, a, _, rfl, hS, for_it walk_enum (fun i σ H' => ∃ v1 v2, σ = [some (.int b), some (.ref a), v1, v2] ∧ Same H H') ⟨none, none, rfl, Same.refl H⟩ (fun i σ H' _ ⟨_, _, _, s5⟩ => s5.seq hS) ?_ ?_⟩
    · rintro i x σ H1 H2 hi ⟨v1, v2, rfl, s5⟩ ⟨T0, x0, y0, rfl, nT, rfl, e1, e2⟩
      obtain ⟨z, hz, rfl⟩ := map_at e2
      obtain ⟨z0, z1⟩ := hb z (List.mem_of_getElem? hz)
      refine ⟨T0, _, rfl, SqT.of upd_same, rfl, _, _, rfl, _, _, rfl, rfl, ?_⟩
      refine ⟨_, rfl, _, _, rfl, rfl, _, rfl, ?_⟩
      refine ite2 (fun c => absurd (of_decide_eq_true c) (by omega)) (fun _ => ?_)
      refine ⟨_, rfl, _, rfl, _, _, rfl, rfl, _, rfl, ?_⟩
      refine ite2 (fun c => absurd (of_decide_eq_true c) (by omega)) (fun _ => ?_)
      exact ⟨_, _, rfl, s5.upd' nT⟩
    · rintro σ H' ⟨v1, v2, rfl, s5⟩
      exact k _ s5

abbrev s_cell_of : Stmt := top 22
abbrev N_cell_of : List Str := ["base", "numbers", "cell", "number"]
abbrev P_cell_of : List Str := ["base", "numbers"]
theorem sc_cell_of : FnScope N_cell_of P_cell_of (defScope s_cell_of) := ⟨rfl, rfl, rfl, by decide +kernel, rfl, by decide +kernel, by decide +kernel⟩
def spCell (K : PySem.W.Frag) : Sp := fun vs H Q _ => ∃ (b : Int) (a : Addr) (ns : List Int), vs = [.int b, .ref a] ∧ SqL K H a (ns.map V.int) ∧ 2 ≤ b ∧ b ≤ 10000 ∧ Q (.int (val b ns)) H
theorem ok_cell_of (T : Txt mg) (D : Df K mg "cell_of" s_cell_of P_cell_of) : Fn P w K mg base CX0 1 "cell_of" P_cell_of (spCell K) := by
  refine D.ok sc_cell_of (fun vs H Q E h => ?_) (fun f cdv A outer s H vs Q E hr h => ?_)
  · obtain ⟨b, a, ns, rfl, _⟩ := h
    rfl
  · obtain ⟨b, a, ns, rfl, hS, h2, h1, k⟩ := h
    have nd := sc_cell_of.nd
    refine ⟨_, (pss_cons (ps_set (i := 2) nd rfl (by first | exact Or.inl rfl | exact Or.inr rfl) pe_int)
  (pss_cons (ps_for PassesOwn.never rfl (pi_reversed (by rfl) T.b_reversed (pa_cons (pv 1) pa_nil)) (pg_name (i := 3) nd rfl (by first | exact Or.inl rfl | exact Or.inr rfl))
  (pss_one (ps_set (i := 2) nd rfl (by first | exact Or.inl rfl | exact Or.inr rfl) (pe_op op_add (pe_op op_mul (pv 2) (pv 0)) (pv 3)))))
  (pss_one (ps_ret (pv 2))))), ?_⟩
    refine ⟨_, rfl, a, _, rfl, hS, for_it walk_rev (fun i σ H' => ∃ v, σ = [some (.int b), some (.ref a), some (.int (val b (ns.drop (ns.length - i)))), v] ∧ H' = H) ⟨none, by rw [Nat.sub_zero, List.drop_length]; rfl, rfl⟩ (fun i σ H' _ ⟨_, _, s5⟩ => s5 ▸ hS) ?_ ?_⟩
    · rintro i x σ H1 H2 hi ⟨v, rfl, rfl⟩ ⟨rfl, e⟩
      rw [List.length_map] at hi e
      obtain ⟨z, hz, rfl⟩ := map_at e
      refine ⟨_, rfl, _, rfl, _, _, rfl, rfl, .inr (by constructor <;> omega), _, rfl, _, _, rfl, rfl, ?_⟩
      exact ⟨_, by rw [val_step b hi hz]; rfl, rfl⟩
    · rintro σ H' ⟨v, rfl, rfl⟩
      refine ⟨_, rfl, ?_⟩
      rw [List.length_map, Nat.sub_self]
      exact k

abbrev s_numbers_in : Stmt := top 23
abbrev N_numbers_in : List Str := ["base", "cell", "numbers", "rest", "_"]
abbrev P_numbers_in : List Str := ["base", "cell"]
theorem sc_numbers_in : FnScope N_numbers_in P_numbers_in (defScope s_numbers_in) := ⟨rfl, rfl, rfl, by decide +kernel, rfl, by decide +kernel, by decide +kernel⟩
def spNum : Sp := fun vs H Q _ => ∃ (b c : Int), vs = [.int b, .int c] ∧ 2 ≤ b ∧ b ≤ 10000 ∧ ∀ (H' : Hp) (p : Addr), Same H H' → H p = none → H' p = some (.lst ((digits b (perC b) c).map V.int)) → Q (.ref p) H'
theorem ok_numbers_in (T : Txt mg) (D : Df K mg "numbers_in" s_numbers_in P_numbers_in) (G_per_cell : Fn P w K mg base CX0 1 "per_cell" P_per_cell spPer) : Fn P w K mg base CX0 2 "numbers_in" P_numbers_in spNum := by
  refine D.ok sc_numbers_in (fun vs H Q E h => ?_) (fun f cdv A outer s H vs Q E hr h => ?_)
  · obtain ⟨b, c, rfl, _⟩ := h
    rfl
  · obtain ⟨b, c, rfl, h2, h1, k⟩ := h
    have nd := sc_numbers_in.nd
    refine ⟨_, (pss_cons (ps_set (i := 2) nd rfl (by first | exact Or.inl rfl | exact Or.inr rfl) (pe_lst pa_nil))
  (pss_cons (ps_set (i := 3) nd rfl (by first | exact Or.inl rfl | exact Or.inr rfl) (pv 1))
  (pss_cons (ps_for PassesOwn.never rfl (pi_range1 (by rfl) T.b_range (pa_cons (pe_c G_per_cell (hr.mono (by decide)) pass0 (pa_cons (pv 0) pa_nil)) pa_nil)) (pg_name (i := 4) nd rfl (by first | exact Or.inl rfl | exact Or.inr rfl))
  (pss_cons (ps_expr (pe_bm PySem.F.plainAttrs_list PySem.F.slot_list_append PySem.F.type_list_append mt_append (pv 2) (pa_cons (pe_op op_mod (pv 3) (pv 0)) pa_nil)))
  (pss_one (ps_aug (i := 3) nd rfl (by first | exact Or.inl rfl | exact Or.inr rfl) (pv 0) iop_fdiv))))
  (pss_one (ps_ret (pv 2)))))), ?_⟩
    refine ⟨Nat.zero_le _, fun p np => ?_⟩
    refine ⟨_, rfl, _, rfl, b, rfl, h2, h1, _, rfl, by omega, by have := perC_le b; omega, ?_⟩
    refine for_it (walk_range (lo := 0)) (fun i σ H' => ∃ v, σ = [some (.int b), some (.int c), some (.ref p), some (.int (restOf b i c)), v] ∧ Same H H' ∧ H' p = some (.lst ((digits b i c).map V.int))) ⟨none, rfl, Same.upd np, upd_same⟩ (fun i σ H' _ _ => True.intro) ?_ ?_
    · rintro i x σ H1 H2 hi ⟨v, rfl, s5, hp⟩ ⟨rfl, rfl⟩
      rw [Int.toNat_natCast] at hi
      have hi2 := perC_le b
      refine ⟨_, rfl, .inl ⟨rfl, _, SqL.of hp⟩, _, rfl, _, rfl, _, _, rfl, rfl, (by show 0 < b; omega), _, _, _, rfl, rfl, hp, by rw [List.length_map, digits_length]; exact Nat.lt_of_lt_of_le hi (Nat.le_trans hi2 (by decide)), ?_⟩
      refine ⟨_, rfl, _, rfl, _, _, rfl, rfl, ⟨by omega, by omega⟩, ?_⟩
      refine ⟨_, by rw [restOf_succ]; rfl, Same.put s5 np, ?_⟩
      rw [upd_same, digits_succ, List.map_append]
      rfl
    · rintro σ H' ⟨v, rfl, s5, hp⟩
      rw [Int.toNat_natCast] at hp
      exact ⟨_, rfl, k _ _ s5 np hp⟩

abbrev s_packed : Stmt := top 19
abbrev N_packed : List Str := ["base", "values", "many", "at"]
abbrev P_packed : List Str := ["base", "values"]
theorem sc_packed : FnScope N_packed P_packed (defScope s_packed) := ⟨rfl, rfl, rfl, by decide +kernel, rfl, by decide +kernel, by decide +kernel⟩
def spPck (K : PySem.W.Frag) : Sp := fun vs H Q _ => ∃ (b : Int) (a : Addr) (ns : List Int), vs = [.int b, .ref a] ∧ SqL K H a (ns.map V.int) ∧ 2 ≤ b ∧ b ≤ 10000 ∧ (∀ n ∈ ns, 0 ≤ n ∧ n < b) ∧ ns.length ≤ 1000 ∧
  ∀ (H' : Hp) (p : Addr), Same H H' → H p = none → H' p = some (.tup ((K3.packed b ns).map V.int)) → Q (.ref p) H'
theorem ok_packed (T : Txt mg) (D : Df K mg "packed" s_packed P_packed) (G_per_cell : Fn P w K mg base CX0 1 "per_cell" P_per_cell spPer) (G_check_below : Fn P w K mg base CX0 1 "check_below" P_check_below (spChk K))
    (G_cell_of : Fn P w K mg base CX0 1 "cell_of" P_cell_of (spCell K)) : Fn P w K mg base CX0 2 "packed" P_packed (spPck K) := by
  refine D.ok sc_packed (fun vs H Q E h => ?_) (fun f cdv A outer s H vs Q E hr h => ?_)
  · obtain ⟨b, a, ns, rfl, _⟩ := h
    rfl
  · obtain ⟨b, a, ns, rfl, hS, h2, h1, hb, hl, k⟩ := h
    have nd := sc_packed.nd
    refine ⟨_, (pss_cons (ps_set (i := 2) nd rfl (by first | exact Or.inl rfl | exact Or.inr rfl) (pe_c G_per_cell (hr.mono (by decide)) pass0 (pa_cons (pv 0) pa_nil)))
  (pss_cons (ps_expr (pe_c G_check_below (hr.mono (by decide)) pass0 (pa_cons (pv 0) (pa_cons (pv 1) pa_nil))))
  (pss_one (ps_ret (pe_callTy call_tuple_of (by rfl) T.b_tuple (by decide +kernel) (pa_cons (pe_lc (own := [("at", 3)]) (g := gName 3) (by rfl) nd  (pi_range3 (by rfl) T.b_range (pa_cons pe_int (pa_cons (pe_callB call_len_seq (by rfl) T.b_len (by decide +kernel) (pa_cons (pv 1) pa_nil)) (pa_cons (pv 2) pa_nil)))) (blkOk_by (own := [("at", 3)]) (N := N_packed) (sc := defScope s_packed) (by decide +kernel)) (fun _ _ _ _ _ => pg_name (i := 3) nd rfl (Or.inl rfl)) (fun _ _ _ _ _ => pts_nil) (fun _ _ _ _ _ => (pe_c G_cell_of (hr.mono (by decide)) pass0 (pa_cons (pv 0) (pa_cons (pe_slice (sl_listK (K := K) rfl) (pv 1) (po_some (pv 3)) (po_some (pe_op op_add (pv 3) (pv 2)))) pa_nil))))) pa_nil)))))), ?_⟩
    have hk := perC_pos h1
    have hkl := perC_le b
    refine ⟨_, rfl, b, rfl, h2, h1, ?_⟩
    refine ⟨_, rfl, _, rfl, b, a, ns, rfl, hS, hb, fun H1 s1 => ?_⟩
    refine ⟨_, rfl, a, _, rfl, .inl (s1.seq hS), _, rfl, _, _, _, cells (perC b) ns.length, rfl, ?_, ?_⟩
    · rw [List.length_map]
      exact rgC_up hk (by omega) (by omega)
    intro D nD
    have sD : Same H (upd H1 D (.lst [])) := s1.upd' nD
    have nDH : H D = none := s1.free nD
    refine lc_all walk_rangeC (fun i H' => Same H H' ∧ H' D = some (.lst (((List.range i).map (fun i => val b ((ns.drop (i * perC b)).take (perC b)))).map V.int))) ⟨sD, upd_same⟩ (fun _ _ _ _ => True.intro) ?_ ?_
    · rintro i x H2 H3 hi ⟨s2, hD⟩ ⟨rfl, rfl⟩
      have hc := (cells_lt hk).mp hi
      have e0 : (0 : Int) + (i : Int) * (perC b : Int) = ((i * perC b : Nat) : Int) := by rw [Int.natCast_mul]; omega
      refine ⟨_, rfl, _, rfl, _, rfl, _, rfl, _, rfl, _, rfl, _, _, rfl, rfl, _, rfl, a, _, rfl, s2.seq hS, fun p np => ?_⟩
      refine ⟨b, p, (ns.drop (i * perC b)).take (perC b), rfl, SqL.of ?_, h2, h1, ?_⟩
      · rw [upd_same, e0, cutV_part, List.map_take, List.map_drop]
      refine ⟨_, (upd_ne (ne_of_none hD np)).trans hD, ?_, Same.put (s2.upd' np) nDH, ?_⟩
      · rw [List.length_map, List.length_map, List.length_range, sizeLine_eq]
        have := cells_le (n := ns.length) hk
        omega
      · rw [upd_same, List.range_succ, List.map_append, List.map_append]
        rfl
    · rintro H2 ⟨s2, hD⟩
      refine ⟨_, _, rfl, .inl ⟨SqL.of hD, fun l nl => ?_⟩⟩
      rw [packed_eq h1]
      exact k _ _ (s2.upd' nl) (s2.free nl) upd_same

abbrev s_unpacked : Stmt := top 20
abbrev N_unpacked : List Str := ["base", "cells", "many", "numbers", "cell"]
abbrev P_unpacked : List Str := ["base", "cells", "many"]
theorem sc_unpacked : FnScope N_unpacked P_unpacked (defScope s_unpacked) := ⟨rfl, rfl, rfl, by decide +kernel, rfl, by decide +kernel, by decide +kernel⟩
def spUnp (K : PySem.W.Frag) : Sp := fun vs H Q _ => ∃ (b : Int) (a : Addr) (cs : List Int) (m : Nat), vs = [.int b, .ref a, .int m] ∧ SqT K H a (cs.map V.int) ∧ 2 ≤ b ∧ b ≤ 10000 ∧ cs.length ≤ 1000 ∧
  ∀ (H' : Hp) (p : Addr), Same H H' → H p = none → H' p = some (.lst (((cs.flatMap (digits b (perC b))).take m).map V.int)) → Q (.ref p) H'
theorem ok_unpacked (T : Txt mg) (D : Df K mg "unpacked" s_unpacked P_unpacked) (G_numbers_in : Fn P w K mg base CX0 2 "numbers_in" P_numbers_in spNum) : Fn P w K mg base CX0 3 "unpacked" P_unpacked (spUnp K) := by
  refine D.ok sc_unpacked (fun vs H Q E h => ?_) (fun f cdv A outer s H vs Q E hr h => ?_)
  · obtain ⟨b, a, cs, m, rfl, _⟩ := h
    rfl
  · obtain ⟨b, a, cs, m, rfl, hS, h2, h1, hl, k⟩ := h
    have nd := sc_unpacked.nd
    refine ⟨_, (pss_cons (ps_set (i := 3) nd rfl (by first | exact Or.inl rfl | exact Or.inr rfl) (pe_lst pa_nil))
  (pss_cons (ps_for PassesOwn.never rfl (pi_tup (pv 1)) (pg_name (i := 4) nd rfl (by first | exact Or.inl rfl | exact Or.inr rfl))
  (pss_one (ps_expr (pe_bm PySem.F.plainAttrs_list PySem.F.slot_list_extend PySem.F.type_list_extend mt_extend (pv 3) (pa_cons (pe_c G_numbers_in (hr.mono (by decide)) pass0 (pa_cons (pv 0) (pa_cons (pv 4) pa_nil))) pa_nil)))))
  (pss_one (ps_ret (pe_slice sl_list (pv 3) po_none (po_some (pv 2))))))), ?_⟩
    refine ⟨Nat.zero_le _, fun p np => ?_⟩
    refine ⟨_, rfl, a, rfl, ⟨_, (Same.upd np).seqT hS⟩, for_it walk_tup (fun i σ H' => ∃ v, σ = [some (.int b), some (.ref a), some (.int m), some (.ref p), v] ∧ Same H H' ∧ H' p = some (.lst (((cs.take i).flatMap (digits b (perC b))).map V.int))) ⟨none, rfl, Same.upd np, upd_same⟩ (fun i σ H' _ ⟨_, _, s5, _⟩ => s5.seqT hS) ?_ ?_⟩
    · rintro i x σ H1 H2 hi ⟨v, rfl, s5, hp⟩ ⟨rfl, e⟩
      rw [List.length_map] at hi
      obtain ⟨z, hz, rfl⟩ := map_at e
      refine ⟨_, rfl, .inl ⟨rfl, _, SqL.of hp⟩, _, rfl, _, rfl, b, z, rfl, h2, h1, fun H3 q s6 nq hq => ?_⟩
      refine ⟨p, q, _, _, rfl, rfl, s6 _ _ hp, hq, ?_, ?_⟩
      · have hk := perC_le b
        have h9 : i * perC b ≤ 1000 * 14 := Nat.mul_le_mul (by omega) hk
        rw [List.length_map, List.length_map, digits_length, flat_length, List.length_take, Nat.min_eq_left (by omega), sizeLine_eq]
        omega
      · refine ⟨_, rfl, Same.put (s5.trans s6) np, ?_⟩
        rw [upd_same, take_more hz, List.flatMap_append, List.map_append]
        simp
    · rintro σ H' ⟨v, rfl, s5, hp⟩
      refine ⟨_, rfl, _, rfl, _, rfl, p, _, rfl, SqL.of hp, fun q nq => ?_⟩
      refine k _ _ (s5.upd' nq) (s5.free nq) ?_
      rw [upd_same, cutV_take, List.length_map, List.take_length, List.map_take]
end
end K3

set_option Elab.async false
set_option linter.all false
set_option maxRecDepth 100000
set_option maxHeartbeats 4000000
namespace K3
open PySem PySem.Spec PyProof.Rows L2
/-! ### == of lists of ints -/
theorem eqvAll_ints : ∀ ns ms : List Int, PyData.eqvAll (ns.map PyData.int) (ms.map PyData.int) = decide (ns = ms)
  | [], [] => rfl
  | [], _ :: _ => by simp [PyData.eqvAll]
  | _ :: _, [] => by simp [PyData.eqvAll]
  | n :: ns, m :: ms => by
    rw [List.map_cons, List.map_cons, PyData.eqvAll, eqvAll_ints ns ms, PyData.eqv]
    by_cases h : n = m
    · subst h; simp
    · simp [h]
theorem dpAll_ints {K : PySem.W.Frag} {H : Hp} : ∀ ns : List Int, DpAll K H (ns.map V.int) (ns.map PyData.int)
  | [] => .nil
  | n :: r => .cons (.int n) (dpAll_ints r)
def rEqIs (K : PySem.W.Frag) : R2 := fun x y H Q => ∃ (a b : Addr) (ns ms : List Int), x = .ref a ∧ y = .ref b ∧ SqL K H a (ns.map V.int) ∧ SqL K H b (ms.map V.int) ∧ Q (.bl (decide (ns = ms))) H
def rNeIs (K : PySem.W.Frag) : R2 := fun x y H Q => ∃ (a b : Addr) (ns ms : List Int), x = .ref a ∧ y = .ref b ∧ SqL K H a (ns.map V.int) ∧ SqL K H b (ms.map V.int) ∧ Q (.bl (!decide (ns = ms))) H
theorem op_eqIs {X : Cx} (hu : X.A.units + 64 < cLine) : OpR X (compareOp .Eq) (rEqIs X.K) := by
  intro pins s σ H x y v u Q I rx ry ⟨a, b, ns, ms, ex, ey, h1, h2, q⟩
  subst ex ey
  refine op_eqD hu pins s σ H _ _ v u Q I rx ry ⟨_, _, .lst h1 (dpAll_ints ns), .lst h2 (dpAll_ints ms), PySem.W.ke_shaped_ints ns, PySem.W.ke_shaped_ints ms, ?_⟩
  rw [PyData.eqv, eqvAll_ints]
  exact q
theorem op_neIs {X : Cx} (hu : X.A.units + 64 < cLine) : OpR X (compareOp .NotEq) (rNeIs X.K) := by
  intro pins s σ H x y v u Q I rx ry ⟨a, b, ns, ms, ex, ey, h1, h2, q⟩
  subst ex ey
  refine op_neD hu pins s σ H _ _ v u Q I rx ry ⟨_, _, .lst h1 (dpAll_ints ns), .lst h2 (dpAll_ints ms), PySem.W.ke_shaped_ints ns, PySem.W.ke_shaped_ints ms, ?_⟩
  rw [PyData.eqv, eqvAll_ints]
  exact q
/-! ### the box of draws -/
/-- at b the box: its list of numbers at l, its stirred number -/
def Bx (H : Hp) (b l : Addr) : Prop := ∃ (st : Int) (ns : List Int), H b = some (.lst [.ref l, .int st]) ∧ H l = some (.lst (ns.map V.int)) ∧ ns.length ≤ 63
/-- all but the box stays -/
def Out (b l : Addr) (H H' : Hp) : Prop := ∀ c o, c ≠ b → c ≠ l → H c = some o → H' c = some o
theorem Out.refl {b l : Addr} {H : Hp} : Out b l H H := fun _ _ _ _ e => e
theorem Out.trans {b l : Addr} {H H1 H2 : Hp} (a : Out b l H H1) (c : Out b l H1 H2) : Out b l H H2 := fun d o h1 h2 e => c d o h1 h2 (a d o h1 h2 e)
theorem Out.of {b l : Addr} {H H' : Hp} (s : Same H H') : Out b l H H' := fun _ _ _ _ e => s _ _ e
theorem Out.b {b l : Addr} {H : Hp} {o : HO} : Out b l H (upd H b o) := fun c u h1 _ e => by rw [upd_ne h1]; exact e
theorem Out.l {b l : Addr} {H : Hp} {o : HO} : Out b l H (upd H l o) := fun c u _ h2 e => by rw [upd_ne h2]; exact e
theorem Bx.same {b l : Addr} {H H' : Hp} (h : Bx H b l) (s : Same H H') : Bx H' b l := by
  obtain ⟨st, ns, h1, h2, h3⟩ := h
  exact ⟨st, ns, s _ _ h1, s _ _ h2, h3⟩
theorem Bx.ne {b l : Addr} {H : Hp} (h : Bx H b l) : b ≠ l := by
  obtain ⟨st, ns, h1, h2, h3⟩ := h
  intro e
  subst e
  rw [h1] at h2
  have e2 := HO.lst.inj (Option.some.inj h2)
  cases ns with
  | nil => cases e2
  | cons n r => cases e2
/-- what stands apart from the box is kept -/
theorem Out.at {b l p : Addr} {H H' : Hp} {o : HO} (h : Out b l H H') (h1 : p ≠ b) (h2 : p ≠ l) (e : H p = some o) : H' p = some o := h p o h1 h2 e
theorem Bx.free {b l p : Addr} {H : Hp} (h : Bx H b l) (n : H p = none) : p ≠ b ∧ p ≠ l := by
  obtain ⟨st, ns, h1, h2, h3⟩ := h
  exact ⟨fun e => (by rw [e, h1] at n; cases n), fun e => (by rw [e, h2] at n; cases n)⟩
theorem at0 {x : V} {xs : List V} : atI (x :: xs) 0 = some x := at_of (z := 0) (j := 0) rfl rfl
theorem ix0 (n : Nat) : ixN (n + 1) 0 = some 0 := by
  unfold ixN
  simp
section
variable {P : Program} {w : World} {K : PySem.W.Frag} {mg : Str → Option Value} {base : Heap}
abbrev s__law_begun : Stmt := top 57
abbrev N__law_begun : List Str := ["_law_script", "_law_stirred", "_law_cell"]
abbrev P__law_begun : List Str := ["_law_script"]
theorem sc__law_begun : FnScope N__law_begun P__law_begun (defScope s__law_begun) := ⟨rfl, rfl, rfl, by decide +kernel, rfl, by decide +kernel, by decide +kernel⟩
def spBegun (K : PySem.W.Frag) : Sp := fun vs H Q _ => ∃ (a : Addr) (ns : List Int), vs = [.ref a] ∧ SqL K H a (ns.map V.int) ∧ ns.length ≤ 63 ∧
  ∀ (H' : Hp) (b l : Addr), Same H H' → Bx H' b l → Q (.ref b) H'
theorem ok_begun (T : Txt mg) (D : Df K mg "_law_begun" s__law_begun P__law_begun) : Fn P w K mg base CX0 1 "_law_begun" P__law_begun (spBegun K) := by
  refine D.ok sc__law_begun (fun vs H Q E h => ?_) (fun f cdv A outer s H vs Q E hr h => ?_)
  · obtain ⟨a, ns, rfl, _⟩ := h
    rfl
  · obtain ⟨a, ns, rfl, hS, hl, k⟩ := h
    have nd := sc__law_begun.nd
    refine ⟨_, (pss_cons (ps_set (i := 1) nd rfl (by first | exact Or.inl rfl | exact Or.inr rfl) pe_int)
  (pss_cons (ps_for PassesOwn.never rfl (pi_list (pv 0)) (pg_name (i := 2) nd rfl (by first | exact Or.inl rfl | exact Or.inr rfl))
  (pss_one (ps_set (i := 1) nd rfl (by first | exact Or.inl rfl | exact Or.inr rfl) (pe_op op_mod (pe_op op_add (pe_op op_add (pe_op op_mul (pv 1) pe_int) (pe_op op_mul (pv 2) pe_int)) pe_int) pe_int))))
  (pss_one (ps_ret (pe_lst (pa_cons (pe_callTy call_list_of (by rfl) T.b_list (by decide +kernel) (pa_cons (pv 0) pa_nil)) (pa_cons (pe_op op_mul (pv 1) (pe_callTy call_int1 (by rfl) T.b_int (by decide +kernel) (pa_cons (pe_cmpR op_gt (pe_callB call_len_seq (by rfl) T.b_len (by decide +kernel) (pa_cons (pv 0) pa_nil)) pe_int (nomark _)) pa_nil))) pa_nil))))))), ?_⟩
    refine ⟨_, rfl, a, rfl, ⟨_, hS⟩, for_it walk_list (fun i σ H' => ∃ (z : Int) (v : Option V), σ = [some (.ref a), some (.int z), v] ∧ H' = H) ⟨0, none, rfl, rfl⟩ (fun i σ H' _ ⟨_, _, _, e⟩ => e ▸ hS) ?_ ?_⟩
    · rintro i x σ H1 H2 hi ⟨z, v, rfl, rfl⟩ ⟨rfl, e⟩
      obtain ⟨y, hy, rfl⟩ := map_at e
      refine ⟨_, rfl, _, _, rfl, rfl, .inr (by constructor <;> decide), _, rfl, _, _, rfl, rfl, .inr (by constructor <;> decide), _, _, rfl, rfl, _, _, rfl, rfl, _, _, rfl, rfl, (by show (0 : Int) < 2147483647; decide), ?_⟩
      exact ⟨_, _, rfl, rfl⟩
    · rintro σ H' ⟨z, v, rfl, rfl⟩
      refine ⟨_, rfl, a, _, rfl, .inl hS, fun l nl => ?_⟩
      have hS' := (Same.upd (o := .lst (ns.map V.int)) nl).seq hS
      refine ⟨_, rfl, _, rfl, a, _, rfl, .inl hS', _, _, rfl, rfl, .inr ⟨_, rfl, ?_⟩⟩
      refine ⟨_, _, rfl, rfl, .inr ?_, (by show 2 ≤ sizeLine; decide), fun p np => ?_⟩
      · split <;> constructor <;> decide
      refine k _ p l ((Same.upd nl).upd' np) ⟨_, ns, upd_same, (upd_ne (ne_of_none upd_same np)).trans upd_same, hl⟩
abbrev s__law_take : Stmt := top 58
abbrev N__law_take : List Str := ["_law_box", "_law_many", "_law_number"]
abbrev P__law_take : List Str := ["_law_box", "_law_many"]
theorem sc__law_take : FnScope N__law_take P__law_take (defScope s__law_take) := ⟨rfl, rfl, rfl, by decide +kernel, rfl, by decide +kernel, by decide +kernel⟩
def spTake : Sp := fun vs H Q _ => ∃ (b l : Addr) (m : Int), vs = [.ref b, .int m] ∧ Bx H b l ∧ 0 < m ∧ m < 2000000000000000000 ∧
  ∀ (H' : Hp) (v : Int), Bx H' b l → Out b l H H' → 0 ≤ v → v < m → Q (.int v) H'
theorem ok_take (T : Txt mg) (D : Df K mg "_law_take" s__law_take P__law_take) : Fn P w K mg base CX0 1 "_law_take" P__law_take spTake := by
  refine D.ok sc__law_take (fun vs H Q E h => ?_) (fun f cdv A outer s H vs Q E hr h => ?_)
  · obtain ⟨b, l, m, rfl, _⟩ := h
    rfl
  · obtain ⟨b, l, m, rfl, B, m0, m1, k⟩ := h
    have nd := sc__law_take.nd
    refine ⟨_, (pss_cons (ps_if (pt_cmpR (op_eqIs hr.units) (pe_ix ix_list (pv 0) pe_int (fun _ _ => rfl)) (pe_lst pa_nil) (nomark _))
  (pss_cons (ps_asg (pe_op op_mod (pe_op op_mul (pe_ix ix_list (pv 0) pe_int (fun _ _ => rfl)) pe_int) pe_int) (pg_sub (pv 0) pe_int set_list))
  (pss_one (ps_ret (pe_op op_mod (pe_op op_fdiv (pe_ix ix_list (pv 0) pe_int (fun _ _ => rfl)) pe_int) (pv 1)))))
  pss_nil)
  (pss_cons (ps_set (i := 2) nd rfl (by first | exact Or.inl rfl | exact Or.inr rfl) (pe_ix ix_list (pe_ix ix_list (pv 0) pe_int (fun _ _ => rfl)) pe_int (fun _ _ => rfl)))
  (pss_cons (ps_asg (pe_op op_fdivW (pv 2) (pv 1)) (pg_sub (pe_ix ix_list (pv 0) pe_int (fun _ _ => rfl)) pe_int set_list))
  (pss_cons (ps_if (PW.pt (pw_or (pt_cmpR op_eq (pe_ix ix_list (pe_ix ix_list (pv 0) pe_int (fun _ _ => rfl)) pe_int (fun _ _ => rfl)) pe_int (nomark _)) (pw_or1 (pt_cmpR op_eq (pe_ix ix_list (pe_ix ix_list (pv 0) pe_int (fun _ _ => rfl)) pe_int (fun _ _ => rfl)) (pe_un un_neg pe_int) (nomark _)))))
  (pss_one (ps_expr (pe_bm PySem.F.plainAttrs_list PySem.F.slot_list_pop PySem.F.type_list_pop mt_popAt (pe_ix ix_list (pv 0) pe_int (fun _ _ => rfl)) (pa_cons pe_int pa_nil))))
  pss_nil)
  (pss_one (ps_ret (pe_op op_mod (pv 2) (pv 1)))))))), ?_⟩
    have nbl := B.ne
    obtain ⟨st, ns, h1, h2, h3⟩ := B
    refine ⟨_, rfl, b, _, 0, _, rfl, rfl, SqL.of h1, rfl, Nat.zero_le _, fun p np => ?_⟩
    refine ⟨l, p, ns, [], rfl, rfl, SqL.of ((upd_ne (ne_of_none h2 np)).trans h2), SqL.of upd_same, _, rfl, ?_⟩
    refine ite2 (fun c => ?_) (fun c => ?_)
    · have c' : ns = [] := of_decide_eq_true c
      subst c'
      refine ⟨_, rfl, b, _, 1, _, rfl, rfl, SqL.of ((upd_ne (ne_of_none h1 np)).trans h1), rfl, _, _, rfl, rfl, .inr (by constructor <;> decide), _, _, rfl, rfl, (by show (0 : Int) < 2147483647; decide), _, rfl, b, _, 1, 1, rfl, rfl, (upd_ne (ne_of_none h1 np)).trans h1, rfl, ?_⟩
      refine ⟨_, rfl, b, _, 1, _, rfl, rfl, SqL.of upd_same, rfl, _, _, rfl, rfl, ⟨by decide, by decide⟩, _, rfl, _, _, rfl, rfl, m0, ?_⟩
      refine k _ _ ⟨_, [], upd_same, ?_, Nat.zero_le _⟩ ((Out.of (Same.upd np)).trans Out.b) (Int.emod_nonneg _ (by omega)) (Int.emod_lt_of_pos _ m0)
      rw [upd_ne nbl.symm, upd_ne (ne_of_none h2 np)]
      exact h2
    · cases ns with
      | nil => exact absurd (decide_eq_true rfl) c
      | cons n r =>
        have hb : (upd H p (.lst [])) b = some (.lst [.ref l, .int st]) := (upd_ne (ne_of_none h1 np)).trans h1
        have hl : (upd H p (.lst [])) l = some (.lst (.int n :: r.map V.int)) := (upd_ne (ne_of_none h2 np)).trans h2
        have s1 : Out b l H (upd H p (.lst [])) := Out.of (Same.upd np)
        refine ⟨_, rfl, b, _, 0, _, rfl, rfl, SqL.of hb, rfl, l, _, 0, _, rfl, rfl, SqL.of hl, at0, ?_⟩
        refine ⟨_, rfl, _, rfl, _, _, rfl, rfl, wide_div (b := 64) m0 (by omega) (by decide) (by decide), _, rfl, b, _, 0, _, rfl, rfl, SqL.of hb, rfl, l, _, 0, 0, rfl, rfl, hl, ix0 _, ?_⟩
        have hb2 : (upd (upd H p (.lst [])) l (.lst (.int (n / m) :: r.map V.int))) b = some (.lst [.ref l, .int st]) := (upd_ne nbl).trans hb
        have hl2 : (upd (upd H p (.lst [])) l (.lst (.int (n / m) :: r.map V.int))) l = some (.lst (.int (n / m) :: r.map V.int)) := upd_same
        have s2 : Out b l H (upd (upd H p (.lst [])) l (.lst (.int (n / m) :: r.map V.int))) := s1.trans Out.l
        have kp : tSeq (tDrop (tBM K "list" rPopAt (tOp (rIxL K) (tVar 0) (tC (.int 0))) (tCons (tC (.int 0)) tNil))) (tRet (tOp (rI (fun _ j => 0 < j) fun i j => V.int (i % j)) (tVar 2) (tVar 1))) { nx := fun _ H' => Q .non H', rt := Q }
            [some (.ref b), some (.int m), some (.int n)] (upd (upd H p (.lst [])) l (.lst (.int (n / m) :: r.map V.int))) := by
          refine ⟨_, rfl, b, _, 0, _, rfl, rfl, SqL.of hb2, rfl, .inl ⟨rfl, _, SqL.of hl2⟩, l, _, 0, 0, _, rfl, rfl, hl2, by decide, by decide, ?_, rfl, ?_⟩
          · show seqIndex? 0 (r.map V.int).length.succ = some 0
            unfold seqIndex?
            simp
          refine ⟨_, rfl, _, rfl, _, _, rfl, rfl, m0, ?_⟩
          refine k _ _ ⟨st, r, (upd_ne nbl).trans hb2, upd_same, by simp at h3; omega⟩ (s2.trans Out.l) (Int.emod_nonneg _ (by omega)) (Int.emod_lt_of_pos _ m0)
        refine ⟨_, rfl, b, _, 0, _, rfl, rfl, SqL.of hb2, rfl, l, _, 0, _, rfl, rfl, SqL.of hl2, at0, rfl, _, rfl, ?_⟩
        refine ite2 (fun _ => kp) (fun _ => ?_)
        refine ⟨_, rfl, b, _, 0, _, rfl, rfl, SqL.of hb2, rfl, l, _, 0, _, rfl, rfl, SqL.of hl2, at0, _, rfl, rfl, _, rfl, ?_⟩
        refine ite2 (fun _ => kp) (fun _ => ?_)
        refine ⟨_, rfl, _, rfl, _, _, rfl, rfl, m0, ?_⟩
        exact k _ _ ⟨st, (n / m) :: r, hb2, hl2, by simpa using h3⟩ s2 (Int.emod_nonneg _ (by omega)) (Int.emod_lt_of_pos _ m0)
end
end K3

set_option Elab.async false
set_option linter.all false
set_option maxRecDepth 100000
set_option maxHeartbeats 4000000
namespace K3
open PySem PySem.Spec PyProof.Rows L2
theorem pickI {zs : List Int} {v : Int} (h0 : 0 ≤ v) (h1 : v < (zs.length : Int)) : ∃ y, y ∈ zs ∧ atI (zs.map V.int) v = some (.int y) := by
  obtain ⟨k, rfl⟩ : ∃ k : Nat, v = (k : Int) := ⟨v.toNat, by omega⟩
  have hk : k < zs.length := by omega
  exact ⟨zs[k], List.getElem_mem hk, atI_nat (by rw [List.getElem?_map, List.getElem?_eq_getElem hk]; rfl)⟩
/-- what a draw leaves, all apart from the box -/
structure Drw (H0 H : Hp) (b l p : Addr) (xs : List Int) : Prop where
  bx : Bx H b l
  out : Out b l H0 H
  new : H0 p = none
  pb : p ≠ b
  pl : p ≠ l
  at_ : H p = some (.lst (xs.map V.int))
theorem Drw.step {H0 H H' : Hp} {b l p : Addr} {xs : List Int} (d : Drw H0 H b l p xs) (B : Bx H' b l) (O : Out b l H H') : Drw H0 H' b l p xs := ⟨B, d.out.trans O, d.new, d.pb, d.pl, O.at d.pb d.pl d.at_⟩
theorem Drw.same {H0 H H' : Hp} {b l p : Addr} {xs : List Int} (d : Drw H0 H b l p xs) (s : Same H H') : Drw H0 H' b l p xs := d.step (d.bx.same s) (.of s)
theorem Drw.put {H0 H : Hp} {b l p : Addr} {xs ys : List Int} (d : Drw H0 H b l p xs) : Drw H0 (upd H p (.lst (ys.map V.int))) b l p ys := by
  obtain ⟨st, ns, h1, h2, h3⟩ := d.bx
  refine ⟨⟨st, ns, (upd_ne d.pb.symm).trans h1, (upd_ne d.pl.symm).trans h2, h3⟩, fun c o c1 c2 e => ?_, d.new, d.pb, d.pl, upd_same⟩
  rw [upd_ne (ne_of_none e d.new)]
  exact d.out c o c1 c2 e
/-- max(-9999, min(9999, y)) -/
def clip (y : Int) : Int := if (if y < 9999 then y else 9999) > -9999 then (if y < 9999 then y else 9999) else -9999
theorem clip_in (y : Int) : -9999 ≤ clip y ∧ clip y ≤ 9999 := by
  unfold clip
  split <;> split <;> omega
section
variable {P : Program} {w : World} {K : PySem.W.Frag} {mg : Str → Option Value} {base : Heap}
abbrev s__law_values : Stmt := top 69
abbrev N__law_values : List Str := ["_law_box", "_law_most", "_law_found", "_law_many", "_law_way", "_law_begin", "_law_step", "_law_k", "_law_some"]
abbrev P__law_values : List Str := ["_law_box", "_law_most"]
theorem sc__law_values : FnScope N__law_values P__law_values (defScope s__law_values) := ⟨rfl, rfl, rfl, by decide +kernel, rfl, by decide +kernel, by decide +kernel⟩
def spVals : Sp := fun vs H Q _ => ∃ (b l : Addr) (m : Int), vs = [.ref b, .int m] ∧ Bx H b l ∧ 1 ≤ m ∧ m ≤ 32 ∧
  ∀ (H' : Hp) (p : Addr) (xs : List Int), Bx H' b l → Out b l H H' → H p = none → p ≠ b → p ≠ l → H' p = some (.lst (xs.map V.int)) → xs ≠ [] → (xs.length : Int) ≤ m → (∀ x ∈ xs, -9999 ≤ x ∧ x ≤ 9999) → Q (.ref p) H'
def lenAt (p : Addr) (H : Hp) : Nat := match H p with
  | some (.lst xs) => xs.length
  | _ => 0
theorem ok_values (T : Txt mg) (D : Df K mg "_law_values" s__law_values P__law_values) (G__law_take : Fn P w K mg base CX0 1 "_law_take" P__law_take spTake) : Fn P w K mg base CX0 2 "_law_values" P__law_values spVals := by
  refine D.ok sc__law_values (fun vs H Q E h => ?_) (fun f cdv A outer s H vs Q E hr h => ?_)
  · obtain ⟨b, l, m, rfl, _⟩ := h
    rfl
  · obtain ⟨b, l, m, rfl, B, m1, m2, k⟩ := h
    have nd := sc__law_values.nd
    refine ⟨_, (pss_cons (ps_set (i := 2) nd rfl (by first | exact Or.inl rfl | exact Or.inr rfl) (pe_lst pa_nil))
  (pss_cons (ps_set (i := 3) nd rfl (by first | exact Or.inl rfl | exact Or.inr rfl) (pe_op op_add pe_int (pe_c G__law_take (hr.mono (by decide)) pass0 (pa_cons (pv 0) (pa_cons (pv 1) pa_nil)))))
  (pss_cons (ps_while PassesOwn.never (pt_cmpR op_lt (pe_callB call_len_seq (by rfl) T.b_len (by decide +kernel) (pa_cons (pv 2) pa_nil)) (pv 3) (nomark _))
  (pss_cons (ps_set (i := 4) nd rfl (by first | exact Or.inl rfl | exact Or.inr rfl) (pe_c G__law_take (hr.mono (by decide)) pass0 (pa_cons (pv 0) (pa_cons pe_int pa_nil))))
  (pss_cons (ps_set (i := 5) nd rfl (by first | exact Or.inl rfl | exact Or.inr rfl) (pe_ix ix_list (pe_lst (pa_cons (pe_c G__law_take (hr.mono (by decide)) pass0 (pa_cons (pv 0) (pa_cons pe_int pa_nil))) (pa_cons (pe_op op_sub (pe_c G__law_take (hr.mono (by decide)) pass0 (pa_cons (pv 0) (pa_cons pe_int pa_nil))) pe_int) pa_nil))) (pe_c G__law_take (hr.mono (by decide)) pass0 (pa_cons (pv 0) (pa_cons pe_int pa_nil))) (fun _ _ => rfl)))
  (pss_cons (ps_set (i := 6) nd rfl (by first | exact Or.inl rfl | exact Or.inr rfl) (pe_ix ix_list (pe_lst (pa_cons pe_int (pa_cons pe_int (pa_cons (pe_op op_add pe_int (pe_c G__law_take (hr.mono (by decide)) pass0 (pa_cons (pv 0) (pa_cons pe_int pa_nil)))) (pa_cons (pe_op op_sub (pe_c G__law_take (hr.mono (by decide)) pass0 (pa_cons (pv 0) (pa_cons pe_int pa_nil))) pe_int) pa_nil))))) (pe_c G__law_take (hr.mono (by decide)) pass0 (pa_cons (pv 0) (pa_cons pe_int pa_nil))) (fun _ _ => rfl)))
  (pss_one (ps_for PassesOwn.never rfl (pi_range1 (by rfl) T.b_range (pa_cons (pe_op op_add pe_int (pe_c G__law_take (hr.mono (by decide)) pass0 (pa_cons (pv 0) (pa_cons (pe_ix ix_list (pe_lst (pa_cons pe_int (pa_cons pe_int (pa_cons pe_int pa_nil)))) (pe_c G__law_take (hr.mono (by decide)) pass0 (pa_cons (pv 0) (pa_cons pe_int pa_nil))) (fun _ _ => rfl)) pa_nil)))) pa_nil)) (pg_name (i := 7) nd rfl (by first | exact Or.inl rfl | exact Or.inr rfl))
  (pss_cons (ps_set (i := 8) nd rfl (by first | exact Or.inl rfl | exact Or.inr rfl) (pe_lst (pa_cons (pv 5) (pa_cons (pe_op op_add (pv 5) (pe_c G__law_take (hr.mono (by decide)) pass0 (pa_cons (pv 0) (pa_cons pe_int pa_nil)))) (pa_cons (pe_op op_add (pv 5) (pe_c G__law_take (hr.mono (by decide)) pass0 (pa_cons (pv 0) (pa_cons pe_int pa_nil)))) (pa_cons (pe_op op_add (pv 5) (pe_op op_mul (pv 6) (pv 7))) pa_nil))))))
  (pss_cons (ps_set (i := 8) nd rfl (by first | exact Or.inl rfl | exact Or.inr rfl) (pe_op op_cat (pv 8) (pe_lst (pa_cons (pe_ix ix_list (pe_lst (pa_cons (pv 5) (pa_cons (pe_op op_sub pe_int (pv 5)) (pa_cons pe_int (pa_cons pe_int (pa_cons (pe_un un_neg pe_int) pa_nil)))))) (pe_c G__law_take (hr.mono (by decide)) pass0 (pa_cons (pv 0) (pa_cons pe_int pa_nil))) (fun _ _ => rfl)) (pa_cons (pe_op op_sub (pe_c G__law_take (hr.mono (by decide)) pass0 (pa_cons (pv 0) (pa_cons pe_int pa_nil))) pe_int) pa_nil)))))
  (pss_one (ps_expr (pe_bm PySem.F.plainAttrs_list PySem.F.slot_list_append PySem.F.type_list_append mt_append (pv 2) (pa_cons (pe_callB (call_max2 rfl) (by rfl) T.b_max (by decide +kernel) (pa_cons (pe_un un_neg pe_int) (pa_cons (pe_callB (call_min2 rfl) (by rfl) T.b_min (by decide +kernel) (pa_cons pe_int (pa_cons (pe_ix ix_list (pv 8) (pv 4) (fun _ _ => rfl)) pa_nil))) pa_nil))) pa_nil))))))))))))
  (pss_one (ps_ret (pe_slice sl_list (pv 2) po_none (po_some (pv 3)))))))), ?_⟩
    refine ⟨Nat.zero_le _, fun p np => ?_⟩
    obtain ⟨npb, npl⟩ := B.free np
    have d0 : Drw H (upd H p (.lst [])) b l p [] := ⟨B.same (Same.upd np), .of (Same.upd np), np, npb, npl, upd_same⟩
    refine ⟨_, rfl, _, rfl, b, l, m, rfl, d0.bx, by omega, by omega, fun H1 d B1 O1 g0 g1 => ⟨_, _, rfl, rfl, ?_⟩⟩
    have d1 := d0.step B1 O1
    refine while_by (fun σ H' => ∃ (xs : List Int) (v4 v5 v6 v7 v8 : Option V), σ = [some (.ref b), some (.int m), some (.ref p), some (.int (1 + d)), v4, v5, v6, v7, v8] ∧ Drw H H' b l p xs ∧ xs.length ≤ 64 ∧ (∀ x ∈ xs, -9999 ≤ x ∧ x ≤ 9999) ∧ ((xs.length : Int) < 1 + d ∨ 1 ≤ xs.length))
      (fun _ H' => (1 + d - (lenAt p H' : Int)).toNat) ⟨[], none, none, none, none, none, rfl, d1, Nat.zero_le _, (fun x hx => nomatch hx), .inl (by show (0 : Int) < 1 + d; omega)⟩ ?_ (fun σ H Q Q' im h => ?_)
    · rintro σ H2 ⟨xs, v4, v5, v6, v7, v8, rfl, d2, hl, hx, hne⟩
      refine ⟨_, rfl, p, _, rfl, .inl (SqL.of d2.at_), _, rfl, _, _, rfl, rfl, _, rfl, ?_⟩
      rw [List.length_map]
      refine ite2 (fun c => ?_) (fun c => ?_)
      · have c' : (xs.length : Int) < 1 + d := of_decide_eq_true c
        -- way, begin, step
        refine ⟨_, rfl, b, l, _, rfl, d2.bx, by decide, by decide, fun H3 way B3 O3 w0 w1 => ?_⟩
        have d3 := d2.step B3 O3
        refine ⟨_, rfl, b, l, _, rfl, d3.bx, by decide, by decide, fun H4 a1 B4 O4 a0 a2 => ⟨_, rfl, b, l, _, rfl, B4, by decide, by decide, fun H5 a3 B5 O5 a4 a5 => ⟨_, _, rfl, rfl, (by show 2 ≤ sizeLine; decide), fun q nq => ?_⟩⟩⟩
        have d5 := ((d3.step B4 O4).step B5 O5).same (Same.upd (o := .lst ([a1, a3 - 9999].map V.int)) nq)
        refine ⟨_, rfl, b, l, _, rfl, d5.bx, by decide, by decide, fun H6 v1 B6 O6 v10 v11 => ?_⟩
        have d6 := d5.step B6 O6
        obtain ⟨beg, _, ya⟩ := pickI (zs := [a1, a3 - 9999]) v10 v11
        refine ⟨q, _, v1, _, rfl, rfl, SqL.of (O6.at (B5.free nq).1 (B5.free nq).2 upd_same), ya, ?_⟩
        refine ⟨_, rfl, b, l, _, rfl, B6, by decide, by decide, fun H7 e1 B7 O7 e2 e3 => ⟨_, _, rfl, rfl, _, rfl, b, l, _, rfl, B7, by decide, by decide, fun H8 e4 B8 O8 e5 e6 => ⟨_, _, rfl, rfl, (by show 4 ≤ sizeLine; decide), fun q2 nq2 => ?_⟩⟩⟩
        have d8 := ((d6.step B7 O7).step B8 O8).same (Same.upd (o := .lst ([0, 1, 1 + e1, e4 - 200].map V.int)) nq2)
        refine ⟨_, rfl, b, l, _, rfl, d8.bx, by decide, by decide, fun H9 v2 B9 O9 v20 v21 => ?_⟩
        have d9 := d8.step B9 O9
        obtain ⟨stp, sm, sa⟩ := pickI (zs := [0, 1, 1 + e1, e4 - 200]) v20 v21
        have sb : -1000 ≤ stp ∧ stp ≤ 1000 := by
          simp only [List.mem_cons, List.not_mem_nil, or_false] at sm
          omega
        refine ⟨q2, _, v2, _, rfl, rfl, SqL.of (O9.at (B8.free nq2).1 (B8.free nq2).2 upd_same), sa, ?_⟩
        -- for k in range(1 + ..)
        refine ⟨_, rfl, (by show 3 ≤ sizeLine; decide), fun q3 nq3 => ?_⟩
        have d10 := d9.same (Same.upd (o := .lst ([9, 9, 32].map V.int)) nq3)
        refine ⟨_, rfl, b, l, _, rfl, d10.bx, by decide, by decide, fun H10 v3 B10 O10 v30 v31 => ?_⟩
        have d11 := d10.step B10 O10
        obtain ⟨top3, tm, ta⟩ := pickI (zs := [9, 9, 32]) v30 v31
        have tb : 9 ≤ top3 ∧ top3 ≤ 32 := by
          simp only [List.mem_cons, List.not_mem_nil, or_false] at tm
          omega
        refine ⟨q3, _, v3, _, rfl, rfl, SqL.of (O10.at (B9.free nq3).1 (B9.free nq3).2 upd_same), ta, ?_⟩
        refine ⟨b, l, _, rfl, B10, by omega, by omega, fun H11 n B11 O11 n0 n1 => ⟨_, _, rfl, rfl, _, rfl, by omega, by omega, ?_⟩⟩
        have d12 := d11.step B11 O11
        refine for_it (walk_range (lo := 0)) (fun i σ H' => ∃ (ys : List Int) (v7 v8 : Option V), σ = [some (.ref b), some (.int m), some (.ref p), some (.int (1 + d)), some (.int way), some (.int beg), some (.int stp), v7, v8] ∧ Drw H H' b l p ys ∧ ys.length = xs.length + i ∧ (∀ x ∈ ys, -9999 ≤ x ∧ x ≤ 9999))
          ⟨xs, v7, v8, rfl, d12, rfl, hx⟩ (fun _ _ _ _ _ => True.intro) ?_ ?_
        · rintro i x σ H12 H13 hi ⟨ys, v7, v8, rfl, d13, yl, yb⟩ ⟨rfl, rfl⟩
          have hi' : i < 33 := by omega
          refine ⟨_, rfl, _, rfl, _, rfl, b, l, _, rfl, d13.bx, by decide, by decide, fun H14 f1 B14 O14 f2 f3 => ⟨_, _, rfl, rfl, _, rfl, _, rfl, b, l, _, rfl, B14, by decide, by decide, fun H15 f4 B15 O15 f5 f6 => ⟨_, _, rfl, rfl, _, rfl, _, rfl, _, rfl, _, _, rfl, rfl, .inl (by constructor <;> omega), _, _, rfl, rfl, (by show 4 ≤ sizeLine; decide), fun r nr => ?_⟩⟩⟩
          have d15 := ((d13.step B14 O14).step B15 O15).same (Same.upd (o := .lst ([beg, beg + f1, beg + f4, beg + stp * (0 + (i : Int))].map V.int)) nr)
          refine ⟨_, rfl, _, rfl, _, rfl, _, _, rfl, rfl, _, rfl, (by show 5 ≤ sizeLine; decide), fun r2 nr2 => ?_⟩
          have d16 := d15.same (Same.upd (o := .lst ([beg, 0 - beg, 7, 9999, -9999].map V.int)) nr2)
          refine ⟨_, rfl, b, l, _, rfl, d16.bx, by decide, by decide, fun H16 v4 B16 O16 v40 v41 => ?_⟩
          have d17 := d16.step B16 O16
          obtain ⟨y4, _, ya4⟩ := pickI (zs := [beg, 0 - beg, 7, 9999, -9999]) v40 v41
          refine ⟨r2, _, v4, _, rfl, rfl, SqL.of (O16.at (d15.bx.free nr2).1 (d15.bx.free nr2).2 upd_same), ya4, ?_⟩
          refine ⟨_, rfl, b, l, _, rfl, B16, by decide, by decide, fun H17 f7 B17 O17 f8 f9 => ⟨_, _, rfl, rfl, (by show 2 ≤ sizeLine; decide), fun r3 nr3 => ?_⟩⟩
          have d18 := (d17.step B17 O17).same (Same.upd (o := .lst ([y4, f7 - 9999].map V.int)) nr3)
          obtain ⟨rb, rl⟩ := B15.free nr
          have hr0 : (upd H17 r3 (.lst ([y4, f7 - 9999].map V.int))) r = some (.lst ([beg, beg + f1, beg + f4, beg + stp * (0 + (i : Int))].map V.int)) := by
            have z1 := O16.at rb rl ((Same.upd (o := .lst ([beg, 0 - beg, 7, 9999, -9999].map V.int)) nr2) _ _ (upd_same (H := H15) (a := r) (o := .lst ([beg, beg + f1, beg + f4, beg + stp * (0 + (i : Int))].map V.int))))
            exact Same.upd nr3 _ _ (O17.at rb rl z1)
          refine ⟨r, r3, _, _, rfl, rfl, hr0, upd_same, (by show 6 ≤ sizeLine; decide), fun r4 nr4 => ?_⟩
          have d19 := d18.same (Same.upd (o := .lst (([beg, beg + f1, beg + f4, beg + stp * (0 + (i : Int))] ++ [y4, f7 - 9999]).map V.int)) nr4)
          obtain ⟨y5, _, ya5⟩ := pickI (zs := [beg, beg + f1, beg + f4, beg + stp * (0 + (i : Int))] ++ [y4, f7 - 9999]) w0 w1
          refine ⟨_, rfl, .inl ⟨rfl, _, SqL.of d19.at_⟩, _, rfl, _, rfl, _, rfl, r4, _, way, _, rfl, rfl, SqL.of upd_same, ya5, _, _, rfl, _, _, rfl, p, _, _, rfl, rfl, d19.at_, ?_, ?_⟩
          · rw [List.length_map, sizeLine_eq]
            omega
          · have e20 : (ys ++ [clip y5]).map V.int = ys.map V.int ++ [V.int (clip y5)] := List.map_append
            have d20 := d19.put (ys := ys ++ [clip y5])
            rw [e20] at d20
            refine ⟨ys ++ [clip y5], _, _, rfl, ?_, by rw [List.length_append, List.length_singleton]; omega, fun x hx' => ?_⟩
            · exact d20
            · rcases List.mem_append.mp hx' with z | z
              · exact yb x z
              · rw [List.mem_singleton.mp z]
                exact clip_in y5
        · rintro σ H12 ⟨ys, v7, v8, rfl, d13, yl, yb⟩
          refine ⟨⟨ys, _, _, _, v7, v8, rfl, d13, by omega, yb, .inr (by omega)⟩, ?_⟩
          have e1 : lenAt p H12 = ys.length := by
            unfold lenAt
            rw [d13.at_]
            exact List.length_map _
          have e2 : lenAt p H2 = xs.length := by
            unfold lenAt
            rw [d2.at_]
            exact List.length_map _
          show (1 + d - (lenAt p H12 : Int)).toNat < (1 + d - (lenAt p H2 : Int)).toNat
          rw [e1, e2]
          omega
      · have c' : ¬ (xs.length : Int) < 1 + d := fun z => c (decide_eq_true z)
        refine ⟨_, rfl, _, rfl, _, rfl, p, _, rfl, SqL.of d2.at_, fun q nq => ?_⟩
        obtain ⟨e1, e2⟩ := d2.bx.free nq
        have nqH : H q = none := by
          cases z : H q with
          | none => rfl
          | some o =>
            have z2 := d2.out q o e1 e2 z
            rw [nq] at z2
            cases z2
        obtain ⟨mm, hm⟩ : ∃ mm : Nat, 1 + d = (mm : Int) := ⟨(1 + d).toNat, by omega⟩
        have hxs : cutV (xs.map V.int) none (some (1 + d)) = (xs.take mm).map V.int := by rw [hm, cutV_take, List.map_take]
        rw [hxs]
        refine k _ q (xs.take mm) (d2.bx.same (Same.upd nq)) (d2.out.trans (.of (Same.upd nq))) nqH e1 e2 upd_same (fun z => ?_) ?_ (fun x hx' => hx x (List.mem_of_mem_take hx'))
        · have z2 := congrArg List.length z
          rw [List.length_take, List.length_nil] at z2
          omega
        · rw [List.length_take]
          omega
    · obtain ⟨v, e, p', ys, e2, h1, v2, e3, i, j, e4, e5, kk, e6, q⟩ := h
      exact ⟨v, e, p', ys, e2, h1, v2, e3, i, j, e4, e5, kk, e6, im _ _ q⟩
end
end K3

set_option linter.all false
/-! K3F: the five forms, in plain Lean -/
namespace K3
/-! ### least, greatest -/
def lmin : List Int → Int
  | [] => 0
  | [n] => n
  | n :: m :: r => if n ≤ lmin (m :: r) then n else lmin (m :: r)
def lmax : List Int → Int
  | [] => 0
  | [n] => n
  | n :: m :: r => if lmax (m :: r) ≤ n then n else lmax (m :: r)
theorem lmin_ok : ∀ {ns : List Int}, ns ≠ [] → lmin ns ∈ ns ∧ ∀ y ∈ ns, lmin ns ≤ y
  | [], h => absurd rfl h
  | [n], _ => ⟨List.mem_singleton.mpr rfl, fun y hy => by rw [List.mem_singleton.mp hy]; exact Int.le_refl _⟩
  | n :: m :: r, _ => by
    obtain ⟨h1, h2⟩ := lmin_ok (ns := m :: r) (by simp)
    show (if n ≤ lmin (m :: r) then n else lmin (m :: r)) ∈ n :: m :: r ∧ ∀ y ∈ n :: m :: r, (if n ≤ lmin (m :: r) then n else lmin (m :: r)) ≤ y
    split
    · rename_i c
      refine ⟨List.mem_cons_self .., fun y hy => ?_⟩
      rcases List.mem_cons.mp hy with z | z
      · omega
      · have := h2 y z; omega
    · rename_i c
      refine ⟨List.mem_cons_of_mem _ h1, fun y hy => ?_⟩
      rcases List.mem_cons.mp hy with z | z
      · omega
      · exact h2 y z
theorem lmax_ok : ∀ {ns : List Int}, ns ≠ [] → lmax ns ∈ ns ∧ ∀ y ∈ ns, y ≤ lmax ns
  | [], h => absurd rfl h
  | [n], _ => ⟨List.mem_singleton.mpr rfl, fun y hy => by rw [List.mem_singleton.mp hy]; exact Int.le_refl _⟩
  | n :: m :: r, _ => by
    obtain ⟨h1, h2⟩ := lmax_ok (ns := m :: r) (by simp)
    show (if lmax (m :: r) ≤ n then n else lmax (m :: r)) ∈ n :: m :: r ∧ ∀ y ∈ n :: m :: r, y ≤ (if lmax (m :: r) ≤ n then n else lmax (m :: r))
    split
    · rename_i c
      refine ⟨List.mem_cons_self .., fun y hy => ?_⟩
      rcases List.mem_cons.mp hy with z | z
      · omega
      · have := h2 y z; omega
    · rename_i c
      refine ⟨List.mem_cons_of_mem _ h1, fun y hy => ?_⟩
      rcases List.mem_cons.mp hy with z | z
      · omega
      · exact h2 y z
theorem lmin_eq {ns : List Int} {m : Int} (h1 : m ∈ ns) (h2 : ∀ y ∈ ns, m ≤ y) : m = lmin ns := by
  obtain ⟨a, b⟩ := lmin_ok (List.ne_nil_of_mem h1)
  exact Int.le_antisymm (h2 _ a) (b _ h1)
theorem lmax_eq {ns : List Int} {m : Int} (h1 : m ∈ ns) (h2 : ∀ y ∈ ns, y ≤ m) : m = lmax ns := by
  obtain ⟨a, b⟩ := lmax_ok (List.ne_nil_of_mem h1)
  exact Int.le_antisymm (b _ h1) (h2 _ a)
/-! ### the rising list of what comes -/
def ins (x : Int) : List Int → List Int
  | [] => [x]
  | y :: r => if x < y then x :: y :: r else if x = y then y :: r else y :: ins x r
def usort (ns : List Int) : List Int := ns.foldr ins []
theorem mem_ins (x k : Int) : ∀ l, k ∈ ins x l ↔ k = x ∨ k ∈ l
  | [] => by simp [ins]
  | y :: r => by
    have ih := mem_ins x k r
    unfold ins
    split
    · simp
    · split
      · rename_i c d
        subst d
        simp
      · rw [List.mem_cons, ih, List.mem_cons]
        constructor
        · rintro (a | a | a)
          · exact .inr (.inl a)
          · exact .inl a
          · exact .inr (.inr a)
        · rintro (a | a | a)
          · exact .inr (.inl a)
          · exact .inl a
          · exact .inr (.inr a)
theorem ins_rises (x : Int) : ∀ {l}, l.Pairwise (· < ·) → (ins x l).Pairwise (· < ·)
  | [], _ => List.pairwise_singleton _ _
  | y :: r, h => by
    obtain ⟨h1, h2⟩ := List.pairwise_cons.mp h
    unfold ins
    split
    · rename_i c
      refine List.pairwise_cons.mpr ⟨fun z hz => ?_, h⟩
      rcases List.mem_cons.mp hz with e | e
      · omega
      · have := h1 z e; omega
    · split
      · exact h
      · rename_i c d
        refine List.pairwise_cons.mpr ⟨fun z hz => ?_, ins_rises x h2⟩
        rcases (mem_ins x z r).mp hz with e | e
        · omega
        · exact h1 z e
theorem mem_usort (k : Int) : ∀ ns, k ∈ usort ns ↔ k ∈ ns
  | [] => Iff.rfl
  | n :: r => by
    show k ∈ ins n (usort r) ↔ _
    rw [mem_ins, mem_usort k r, List.mem_cons]
theorem usort_rises : ∀ ns, (usort ns).Pairwise (· < ·)
  | [] => List.Pairwise.nil
  | n :: r => ins_rises n (usort_rises r)
theorem rises_eq : ∀ {a b : List Int}, a.Pairwise (· < ·) → b.Pairwise (· < ·) → (∀ k, k ∈ a ↔ k ∈ b) → a = b
  | [], [], _, _, _ => rfl
  | [], y :: b, _, _, h => absurd ((h y).mpr (List.mem_cons_self ..)) (by simp)
  | x :: a, [], _, _, h => absurd ((h x).mp (List.mem_cons_self ..)) (by simp)
  | x :: a, y :: b, ha, hb, h => by
    obtain ⟨h1, h2⟩ := List.pairwise_cons.mp ha
    obtain ⟨h3, h4⟩ := List.pairwise_cons.mp hb
    have e : x = y := by
      rcases List.mem_cons.mp ((h x).mp (List.mem_cons_self ..)) with z | z
      · exact z
      · rcases List.mem_cons.mp ((h y).mpr (List.mem_cons_self ..)) with z2 | z2
        · exact z2.symm
        · have := h3 x z
          have := h1 y z2
          omega
    subst e
    rw [rises_eq h2 h4 fun k => ?_]
    constructor
    · intro hk
      rcases List.mem_cons.mp ((h k).mp (List.mem_cons_of_mem _ hk)) with z | z
      · have := h1 k hk
        omega
      · exact z
    · intro hk
      rcases List.mem_cons.mp ((h k).mpr (List.mem_cons_of_mem _ hk)) with z | z
      · have := h3 k hk
        omega
      · exact z
theorem usort_eq {ns u : List Int} (h : u.Pairwise (· < ·)) (m : ∀ k, k ∈ u ↔ k ∈ ns) : u = usort ns := rises_eq h (usort_rises ns) fun k => (m k).trans (mem_usort k ns).symm
theorem ins_length (x : Int) : ∀ l, (ins x l).length ≤ l.length + 1
  | [] => Nat.le_refl _
  | y :: r => by
    have ih := ins_length x r
    unfold ins
    split
    · simp
    · split
      · simp
      · simp; omega
theorem usort_length : ∀ ns, (usort ns).length ≤ ns.length
  | [] => Nat.le_refl _
  | n :: r => by
    have h1 := ins_length n (usort r)
    have h2 := usort_length r
    show (ins n (usort r)).length ≤ r.length + 1
    omega
theorem usort_ne {ns : List Int} (h : ns ≠ []) : usort ns ≠ [] := by
  obtain ⟨n, r, rfl⟩ : ∃ n r, ns = n :: r := by
    cases ns with
    | nil => exact absurd rfl h
    | cons n r => exact ⟨n, r, rfl⟩
  intro e
  have := (mem_usort n (n :: r)).mpr (List.mem_cons_self ..)
  rw [e] at this
  cases this
/-- the place of a value among those that come -/
def idx (l : List Int) (v : Int) : Nat := l.findIdx (· == v)
theorem idx_lt {l : List Int} {v : Int} (h : v ∈ l) : idx l v < l.length := List.findIdx_lt_length_of_exists ⟨v, h, beq_self_eq_true v⟩
theorem idx_get {l : List Int} {v : Int} (h : v ∈ l) : l[idx l v]? = some v := by
  have hl := idx_lt h
  rw [List.getElem?_eq_getElem hl]
  have e := List.findIdx_getElem (xs := l) (p := (· == v)) (w := hl)
  exact congrArg some (eq_of_beq e)
theorem idx_first {l : List Int} {v : Int} {m : Nat} (h : m < idx l v) : l[m]? ≠ some v := by
  intro e
  obtain ⟨hl, ex⟩ := List.getElem?_eq_some_iff.mp e
  have := List.not_of_lt_findIdx (xs := l) (p := (· == v)) h
  rw [ex] at this
  rw [beq_self_eq_true] at this
  cases this
/-! ### the forms -/
inductive Form where
  | plain (vs : List Int)
  | one (n : Nat) (v : Int)
  | codes (n : Nat) (u c : List Int)
  | near (n : Nat) (l s : Int) (c : List Int)
  | steps (n : Nat) (f l s : Int) (c : List Int)
def room : Form → Nat
  | .plain vs => 1 + vs.length
  | .one _ _ => 3
  | .codes _ u c => 2 + u.length + c.length
  | .near _ _ _ c => 4 + c.length
  | .steps _ _ _ _ c => 5 + c.length
def packedFrom (low span : Int) (ns : List Int) : List Int := if span = 0 then [] else packed (span + 1) (ns.map (· - low))
def mkPlain (vs : List Int) : Option Form := some (.plain vs)
def mkOne (vs : List Int) : Option Form := if lmin vs < lmax vs then none else some (.one vs.length (vs.headD 0))
def mkCodes (vs : List Int) : Option Form := if (usort vs).length < 2 then none else some (.codes vs.length (usort vs) (packed (usort vs).length (vs.map fun v => (idx (usort vs) v : Int))))
def mkNear (vs : List Int) : Option Form := if lmax vs - lmin vs < 1 ∨ 9999 < lmax vs - lmin vs then none else some (.near vs.length (lmin vs) (lmax vs - lmin vs) (packedFrom (lmin vs) (lmax vs - lmin vs) vs))
/-- each value less the one ahead -/
def steps : List Int → List Int
  | [] => []
  | [_] => []
  | n :: m :: r => (m - n) :: steps (m :: r)
def mkSteps (vs : List Int) : Option Form :=
  if vs.length < 2 then none else if 9999 < lmax (steps vs) - lmin (steps vs) then none else
    some (.steps vs.length (vs.headD 0) (lmin (steps vs)) (lmax (steps vs) - lmin (steps vs)) (packedFrom (lmin (steps vs)) (lmax (steps vs) - lmin (steps vs)) (steps vs)))
def unpacked (b : Int) (cs : List Int) (n : Nat) : List Int := (cs.flatMap (digits b (perC b))).take n
def unpackedFrom (low span : Int) (cs : List Int) (n : Nat) : List Int := if span = 0 then List.replicate n low else (unpacked (span + 1) cs n).map (low + ·)
/-- summed up from v -/
def runs (v : Int) : List Int → List Int
  | [] => [v]
  | s :: r => v :: runs (v + s) r
def readF : Form → List Int
  | .plain vs => vs
  | .one n v => List.replicate n v
  | .codes n u c => (unpacked u.length c n).map fun k => u.getD k.toNat 0
  | .near n l s c => unpackedFrom l s c n
  | .steps n f l s c => runs f (unpackedFrom l s c (n - 1))
/-! ### what is laid down is read again -/
theorem unpackedFrom_eq {low span : Int} {ns : List Int} (h0 : 0 ≤ span) (h1 : span ≤ 9999) (h : ∀ n ∈ ns, low ≤ n ∧ n ≤ low + span) : unpackedFrom low span (packedFrom low span ns) ns.length = ns := by
  unfold unpackedFrom packedFrom
  by_cases c : span = 0
  · rw [if_pos c]
    subst c
    refine (List.eq_replicate_iff.mpr ⟨rfl, fun n hn => ?_⟩).symm
    have := h n hn
    omega
  · rw [if_neg c, if_neg c]
    have e : unpacked (span + 1) (packed (span + 1) (ns.map (· - low))) ns.length = ns.map (· - low) := by
      have q := unpacked_packed (b := span + 1) (by omega) (ns.map (· - low)) fun n hn => by
        obtain ⟨m, hm, rfl⟩ := List.mem_map.mp hn
        have := h m hm
        constructor <;> omega
      rw [List.length_map] at q
      exact q
    rw [e, List.map_map]
    have e2 : ((low + ·) ∘ (· - low) : Int → Int) = id := by
      funext n
      show low + (n - low) = n
      omega
    rw [e2, List.map_id]
theorem runs_steps : ∀ (n : Int) (r : List Int), runs n (steps (n :: r)) = n :: r
  | n, [] => rfl
  | n, m :: r => by
    show n :: runs (n + (m - n)) (steps (m :: r)) = n :: m :: r
    have e : n + (m - n) = m := by omega
    rw [e, runs_steps m r]
theorem steps_length : ∀ vs : List Int, (steps vs).length = vs.length - 1
  | [] => rfl
  | [_] => rfl
  | _ :: m :: r => by
    show (steps (m :: r)).length + 1 = (r.length + 1 + 1) - 1
    rw [steps_length (m :: r)]
    simp
theorem steps_ne {vs : List Int} (h : ¬ vs.length < 2) : steps vs ≠ [] := fun e => by
  have := steps_length vs
  rw [e] at this
  simp at this
  omega
theorem between {ns : List Int} (h : ns ≠ []) : ∀ n ∈ ns, lmin ns ≤ n ∧ n ≤ lmin ns + (lmax ns - lmin ns) := fun n hn => by
  have h1 := (lmin_ok h).2 n hn
  have h2 := (lmax_ok h).2 n hn
  omega
theorem span_nn {ns : List Int} (h : ns ≠ []) : 0 ≤ lmax ns - lmin ns := by
  have h1 := (lmin_ok h).2 _ (lmax_ok h).1
  omega
theorem read_one {vs : List Int} {F : Form} (hv : vs ≠ []) (h : mkOne vs = some F) : readF F = vs := by
  unfold mkOne at h
  split at h
  · cases h
  · rename_i c
    cases h
    refine (List.eq_replicate_iff.mpr ⟨rfl, fun n hn => ?_⟩).symm
    have h1 := between hv n hn
    cases vs with
    | nil => exact absurd rfl hv
    | cons m r =>
      have h2 := between hv m (List.mem_cons_self ..)
      show n = m
      omega
theorem read_codes {vs : List Int} {F : Form} (hl : vs.length ≤ 32) (h : mkCodes vs = some F) : readF F = vs := by
  unfold mkCodes at h
  split at h
  · cases h
  · cases h
    have hu := usort_length vs
    have e : unpacked ((usort vs).length : Int) (packed ((usort vs).length : Int) (vs.map fun v => (idx (usort vs) v : Int))) vs.length = vs.map fun v => (idx (usort vs) v : Int) := by
      have q := unpacked_packed (b := ((usort vs).length : Int)) (by omega) (vs.map fun v => (idx (usort vs) v : Int)) fun n hn => by
        obtain ⟨m, hm, rfl⟩ := List.mem_map.mp hn
        have := idx_lt ((mem_usort m vs).mpr hm)
        omega
      rw [List.length_map] at q
      exact q
    show (unpacked ((usort vs).length : Int) _ vs.length).map _ = vs
    rw [e, List.map_map]
    refine (List.map_congr_left fun v hv => ?_).trans (List.map_id vs)
    have := idx_get ((mem_usort v vs).mpr hv)
    show (usort vs).getD (idx (usort vs) v : Int).toNat 0 = v
    rw [Int.toNat_natCast, List.getD_eq_getElem?_getD, this]
    rfl
theorem read_near {vs : List Int} {F : Form} (hv : vs ≠ []) (h : mkNear vs = some F) : readF F = vs := by
  unfold mkNear at h
  split at h
  · cases h
  · rename_i c
    cases h
    exact unpackedFrom_eq (span_nn hv) (by omega) (between hv)
theorem read_steps {vs : List Int} {F : Form} (h : mkSteps vs = some F) : readF F = vs := by
  unfold mkSteps at h
  split at h
  · cases h
  · rename_i c0
    split at h
    · cases h
    · rename_i c
      cases h
      have hs := steps_ne c0
      cases vs with
      | nil => exact absurd (show ([] : List Int).length < 2 by decide) c0
      | cons m r =>
        show runs m (unpackedFrom _ _ _ ((m :: r).length - 1)) = m :: r
        rw [← steps_length, unpackedFrom_eq (span_nn hs) (by omega) (between hs)]
        exact runs_steps m r
end K3

set_option Elab.async false
set_option linter.all false
set_option maxRecDepth 100000
set_option maxHeartbeats 4000000
/-! K3R: rules of my own: t.index of ints, the keys of a module's table, set(list of ints) -/
namespace K3
open PySem PySem.Spec PyProof.Rows L2
/-! ### t.index(k) -/
def rTix (K : PySem.W.Frag) : V → List V → Hp → VK → Prop := fun x xs H Q => ∃ (p : Addr) (ns : List Int) (k : Int) (j : Nat), x = .ref p ∧ xs = [.int k] ∧ SqT K H p (ns.map V.int) ∧ ns[j]? = some k ∧ (∀ m, m < j → ns[m]? ≠ some k) ∧ Q (.int (j : Nat)) H
theorem flat_ints (ns : List Int) : (ns.map V.int).all flatV = true := by
  rw [List.all_map]
  exact List.all_eq_true.mpr fun _ _ => rfl
theorem mt_tixI {X : Cx} : MtR X "tuple.index" (rTix X.K) := by
  intro pins s σ H x xs v us Q I rx rs ⟨p, ns, k, j, ex, exs, hq, hy, hno, q⟩
  subst ex exs
  cases rx
  obtain ⟨u, rfl, tk, rfl⟩ := vals1 rs
  obtain ⟨its, r, pl, hz⟩ := I.tuple hq
  obtain ⟨⟨c0, d0, dat, sl⟩, ho, hc, n, hd⟩ := pl
  subst hc hd
  have hlen : its.toArray.size = ns.length := by
    have e := r.length
    rw [List.length_map] at e
    rw [List.size_toArray, e]
  have hjn : j < ns.length := (List.getElem?_eq_some_iff.mp hy).1
  have item : ∀ (m : Nat) (hm : m < its.toArray.size), ∃ y tt, ns[m]? = some y ∧ its.toArray[m] = Value.int y tt := fun m hm => by
    have hm' : m < ns.length := by omega
    obtain ⟨z, hz2, tt, ez⟩ := r.get (i := m) (x := .int ns[m]) (by rw [List.getElem?_map, List.getElem?_eq_getElem hm']; rfl)
    refine ⟨ns[m], tt, List.getElem?_eq_getElem hm', ?_⟩
    have e := (List.getElem?_eq_some_iff.mp hz2).2
    rw [← ez, ← e, List.getElem_toArray]
  have hj : j < its.toArray.size := by omega
  have M := TI.tuple_indexAt p its.toArray n d0 sl (.int k tk) (eqU (.int k)) j hj (by
    obtain ⟨y, tt, e1, e2⟩ := item j hj
    rw [hy] at e1
    rw [e2, ← Option.some.inj e1]
    exact beq_self_eq_true k) (fun m hm hmj => by
    obtain ⟨y, tt, e1, e2⟩ := item m hm
    rw [e2]
    exact beq_eq_false_iff_ne.mpr fun e => hno m hmj (e ▸ e1))
  exact call_meets PySem.F.slot_tuple_index ⟨_, ho, rfl⟩ PySem.F.entry_tuple_index (PySem.F.args_tuple_index_2 _ _) M
    ⟨ho, fun z hz2 => mem_eqAt (x := .int k) ⟨tk, rfl⟩ rfl r (flat_ints ns) z (by rw [← Array.mem_toList_iff] at hz2; exact hz2), ⟨.int (j : Nat), H, I.tok _, ⟨_, rfl⟩, q⟩⟩
/-! ### for k in TABLE, TABLE a dict of the module with text keys -/
/-- at d: a written dict whose keys are ks, in turn -/
structure KKeys (K : PySem.W.Frag) (w : World) (d : Addr) (ks : List Str) : Prop where
  ex : ∃ (es : Array DictEntry) (n : Nat), KDict K w d es n ∧ es.toList.map He.keyOf = He.keysIn w.params ks
def Itks (ks : List Str) : It := ⟨fun i _ => i < ks.length, fun i H x H' => H' = H ∧ ∃ z, ks[i]? = some z ∧ x = .str z, fun i _ => ks.length ≤ i⟩
theorem walk_ks {ks : List Str} : Walk (Itks ks) ks.length (fun _ => True) (fun i H x H' => H' = H ∧ ∃ z, ks[i]? = some z ∧ x = .str z) :=
  ⟨fun _ _ hi _ => hi, fun _ _ => Nat.le_refl _, fun _ _ _ _ _ _ y => y⟩
theorem key_at {w : World} {l : List DictEntry} {ks : List Str} (h : l.map He.keyOf = He.keysIn w.params ks) {i : Nat} {z : Str} (hz : ks[i]? = some z) : ∃ en t, l[i]? = some en ∧ en.key = Value.str z t := by
  have e : (l.map He.keyOf)[i]? = (He.keysIn w.params ks)[i]? := by rw [h]
  unfold He.keysIn at e
  rw [List.getElem?_map, List.getElem?_map, hz] at e
  cases q : l[i]? with
  | none =>
    rw [q] at e
    cases e
  | some en =>
    rw [q] at e
    have e2 : He.keyOf en = some (z, PyData.keyHash w.params z) := Option.some.inj e
    unfold He.keyOf at e2
    split at e2
    · rename_i x t hk
      have e3 := (Prod.mk.inj (Option.some.inj e2)).1
      exact ⟨en, t, rfl, by rw [hk, e3]⟩
    · cases e2
theorem turn_ks {P : Program} {w : World} {K : PySem.W.Frag} {tg : Expr} {d : Addr} {es : Array DictEntry} {n : Nat} {ks : List Str} (it : Addr) (D : K.lookup d = some ⟨.type "dict", none, .dict es n, #[]⟩) (hk : es.toList.map He.keyOf = He.keysIn w.params ks) :
    Turn P w K tg (Itks ks) [it] it (fun i h => h.IsKeyIter it d i ks.length n) := by
  have hsz : es.size = ks.length := by
    have e := congrArg List.length hk
    unfold He.keysIn at e
    rw [List.length_map, List.length_map, Array.length_toList] at e
    exact e
  have one : it ∈ [it] := List.mem_singleton.mpr rfl
  refine ⟨one, fun i h st b hb => ?_, fun i h h' ⟨oi, e, r⟩ k => ⟨oi, k it one oi e, r⟩, ?_, ?_, fun A i s Q E st h => wpAny_pyIter_keyiter st h⟩
  · obtain rfl := List.mem_singleton.mp hb
    obtain ⟨oi, e, _, dd⟩ := st
    exact ⟨oi, e, fun v z => by rw [dd] at z; cases z⟩
  · intro X hP hw hK hc i pins s σ H E I hf st hi
    subst hP hw hK
    obtain ⟨f0, f1, f2, f3, f4, f5⟩ := hf it one
    have hi' : i < ks.length := hi
    obtain ⟨en, t, hen, ek⟩ := key_at hk (List.getElem?_eq_getElem hi')
    refine next_key_item st (I.kIn _ _ D) rfl hsz (by rw [← hen, Array.getElem?_toList]) fun h' st' sb => ?_
    have I1 := I.turned (t' := s.toks) (h' := h') (fun b ob hb e => (sb.2 b hb).trans e) f0 f1 f3 f4 f5
    obtain ⟨oi, e, c, dd⟩ := id st'
    exact ⟨en.key, rfl, go_of (s := { s with heap := h' }) e c dd (by decide) ⟨.str ks[i], H, I1, ⟨t, ek⟩, ⟨rfl, _, List.getElem?_eq_getElem hi', rfl⟩, st', fun b hb => (hf b hb).1⟩⟩
  · intro X hP hw hK hc i pins s σ H E I hf st hi
    subst hP hw hK
    obtain ⟨f0, f1, f2, f3, f4, f5⟩ := hf it one
    exact next_key_end (I.ok.hd hc) st (I.kIn _ _ D) rfl hsz hi fun h' eb => ⟨rfl, I.turned (t' := s.toks) (fun b ob hb e => eb b ob hb e) f0 f1 f3 f4 f5⟩
def iKs (K : PySem.W.Frag) (w : World) (td : TE) : TI := fun σ H R => td σ H fun x H1 => ∃ d ks, x = .ref d ∧ KKeys K w d ks ∧ R (Itks ks) H1
theorem pi_ks {X : Cx} {tg e : Expr} {td : TE} (he : PE X e td) : PI X tg e (iKs X.K X.w td) := by
  refine ⟨fun pins s σ H R I h => ?_⟩
  refine thn (he.run pins s σ H _ I h) fun u s1 ⟨x, H1, I1, rx, d, ks, ex, KS, q⟩ => ?_
  subst ex
  obtain rfl : u = Value.ref d := rx
  obtain ⟨es, n, D, hk⟩ := KS.ex
  have hsz : es.size = ks.length := by
    have e := congrArg List.length hk
    unfold He.keysIn at e
    rw [List.length_map, List.length_map, Array.length_toList] at e
    exact e
  refine iter_keys D.low (I1.kIn _ _ D.at_) ⟨rfl, rfl, rfl⟩ rfl (pi_one (tk := s1.toks) I1 _ (turn_ks _ D.at_ hk) ⟨_, Heap.get?_push_size _ rfl, rfl, ?_⟩ q)
  rw [hsz] <;> rfl
/-! ### set(list of ints) -/
/-- the set just laid -/
def set0 (w : World) : Obj := { cls := .type "set", dict := none, data := .set #[] 0 (.fresh 0 0 (!w.params.followText "set-order")) }
/-- what set.__init__ leaves -/
def SetMade (w : World) (s : Shared) (ns : List Int) (r : Value) (s2 : Shared) : Prop := r = .none ∧ ∃ h' tk c, s2 = { s with heap := h', toks := tk } ∧ SetR w h' s.heap.objs.size (fun j => decide (j ∈ ns)) c ∧ c ≤ ns.length ∧ ∀ b o, s.heap.get? b = some o → h'.get? b = some o
section
variable {P : Program} {w : World} {A : Around} {E : Value → Shared → Prop} {s : Shared}
theorem call_setL {l : Addr} {items : Array Value} (ns : List Int) {Q : Value → Shared → Prop} (hh : A.handled = none) (hl : s.heap.IsList l items) (hit : IntsAre items.toList ns) (hb : ns.length + 1 < scanBound)
    (h : ∀ (h' : Heap) (tk c : Nat), SetR w h' s.heap.objs.size (fun j => decide (j ∈ ns)) c → c ≤ ns.length → (∀ b o, s.heap.get? b = some o → h'.get? b = some o) → Q (.ref s.heap.objs.size) { s with heap := h', toks := tk }) :
    wpAny (model P w) A (call (.type "set") [.ref l]) Q E s := by
  have hn : items.size = ns.length := by
    have q := IntsAre.length hit
    rwa [Array.length_toList] at q
  obtain ⟨c, tl, hmro⟩ := F.called_set.mro
  have hmade := F.called_set.made
  have hsub := F.called_set.sub
  have h1 := F.called_set.notType
  have h2 := F.called_set.canCreate
  have hct := F.typeCall_set_1 (.ref l)
  refine wpAny_call (codeAny_of_tree ?_)
  show wpAny _ _ (callAny (.type "set") _) _ _ _
  refine wpAny_pure ⟨Code.quiet_builtin _ (by decide +kernel), codeAny_builtin F.entry_type_call ?_⟩
  rw [Around.under_plain (weight_type_call_type "set" [.ref l] []) rfl]
  repeat (any_goals (first | assumption | wp_step))
  refine codeAny_mono (code_set_led1 (.ref l) (E := E) (Q₁ := fun u s1 => u = .ref s.heap.objs.size ∧ s1 = { s with heap := s.heap.push (set0 w) }) ⟨rfl, rfl⟩) fun r s1 hr => ?_
  have hS : (s.heap.push (set0 w)).get? s.heap.objs.size = some (set0 w) := Heap.get?_push_size _ rfl
  have hT : Shared.TypeIs { s with heap := s.heap.push (set0 w) } (.ref s.heap.objs.size) "set" := ⟨_, hS, rfl⟩
  rcases r with er | fl
  · exact hr
  cases fl with
  | next => exact hr.elim
  | brk => exact hr.elim
  | cont => exact hr.elim
  | ret u =>
    obtain ⟨rfl, rfl⟩ := hr
    have hli := F.called_set.init.lookup
    have hbi := F.called_set.init.bind (.ref s.heap.objs.size)
    repeat (any_goals (first | assumption | wp_step))
    refine codeAny_mono (codeAny_call_builtin (R := wants (SetMade w s ns) E) F.called_set.init.plain F.entry_set_init (check_set_init_1 hT ?_)) fun r2 s2 hr2 => ?_
    · obtain ⟨⟨ocls, odict, odata, oslots⟩, hol, hcl, nl, hdl⟩ := hl
      simp only at hcl hdl
      subst hcl hdl
      have hlS : l < s.heap.objs.size := Heap.lt_size hol
      have hl1 : (s.heap.push (set0 w)).IsList l items := ⟨_, Heap.get?_push_of_some _ hol, rfl, nl, rfl⟩
      have hol' : (s.heap.push (set0 w)).get? l = some ⟨.type "list", odict, .seq items nl, oslots⟩ := Heap.get?_push_of_some _ hol
      have hsls := F.sub_list_set
      have hslf := F.sub_list_frozenset
      have hne : (Value.type "list" == Value.type "dict") = false := by decide
      unfold Builtin.«set.__init__» noKeywords Builtin.Frozenset.updateFrom
      generalize hPI : pyIter = PI
      wp_walk
      subst hPI
      have hz : (s.heap.push (set0 w)).objs.size = s.heap.objs.size + 1 := Heap.size_push ..
      have ne1 : l ≠ (s.heap.push (set0 w)).objs.size := Nat.ne_of_lt (by rw [hz]; exact Nat.lt_succ_of_lt hlS)
      have ne2 : s.heap.objs.size ∉ [(s.heap.push (set0 w)).objs.size, l] := fun z => by
        rcases List.mem_cons.mp z with z | z
        · rw [hz] at z
          exact absurd z (Nat.ne_of_lt (Nat.lt_succ_self _))
        · exact absurd (List.mem_singleton.mp z).symm (Nat.ne_of_lt hlS)
      have hd3 : A.in1.in1.in1.handled = none := by simp [hh]
      have hval : ∀ (i : Nat) (v : Value), items[i]? = some v → ∃ k t, ns[i]? = some k ∧ v = .int k t := fun i v hv => by
        have hi : i < ns.length := hn ▸ (Array.getElem?_eq_some_iff.mp hv).1
        obtain ⟨t, e⟩ := IntsAre.int_at hit i v (by rw [Array.getElem?_toList]; exact hv)
        exact ⟨ns[i], t, List.getElem?_eq_getElem hi, by rw [e, List.getD_eq_getElem?_getD, List.getElem?_eq_getElem hi]; rfl⟩
      refine iter_any hl1 fun s2 e2 st2 _ => ?_
      subst e2
      refine wpAny_bind (wpAny_runValue (set_update_ints (Walks.list hd3 _ l ne1 items).toS s.heap.objs.size ne2 ns hn hb hval items.size 0 _ (Nat.sub_zero _) (Nat.zero_le _) st2
        ⟨0, Nat.le_refl 0, setR_new_at (Heap.get?_push_of_some _ hS)⟩ fun s3 c3 mv hc3 R3 => ?_))
      obtain ⟨h3, g3, d3, t3, o3⟩ := s3
      obtain rfl : g3 = s.gens := mv.gens
      obtain rfl : d3 = s.drawn := mv.drawn
      obtain rfl : o3 = s.os := mv.os
      show wpAny _ _ (pure ()) _ _ _
      refine wpAny_pure ?_
      show wpAny _ _ (ret Value.none) _ _ _
      refine wpAny_pure ⟨rfl, h3, t3, c3, rfl, R3, hn ▸ hc3, fun b o e => ?_⟩
      have hb0 : b < s.heap.objs.size := Heap.lt_size e
      refine mv.heap b o (fun z => ?_) (Heap.get?_push_of_some _ (Heap.get?_push_of_some _ e))
      rcases List.mem_cons.mp z with z | z
      · exact absurd z (Nat.ne_of_lt hb0)
      · have z2 := List.mem_singleton.mp z
        rw [hz] at z2
        exact absurd z2 (Nat.ne_of_lt (Nat.lt_succ_of_lt hb0))
    · rcases r2 with er | fl
      · exact hr2
      cases fl with
      | next => exact hr2.elim
      | brk => exact hr2.elim
      | cont => exact hr2.elim
      | ret u =>
        obtain ⟨rfl, h', tk, cc, rfl, hS', hc', hk'⟩ := hr2
        repeat (any_goals (first | assumption | wp_step))
        exact h _ _ _ hS' hc' hk'
end
def rSetL' (K : PySem.W.Frag) (w : World) : List V → Hp → VK → Prop := fun vs H Q => ∃ (a : Addr) (ns : List Int), vs = [V.ref a] ∧ SqL K H a (ns.map V.int) ∧ ns.length < 64 ∧
  ∀ (p : Addr) (n : Nat) (ks : List Int), H p = none → n ≤ ns.length → ks.Nodup → (∀ k, k ∈ ks ↔ k ∈ ns) → ks.length = n → Q (.ref p) (upd H p (SetO w p (fun j => decide (j ∈ ns)) n))
theorem cr_setL {X : Cx} (hc : X.calm = true) : CallR X (.type "set") (rSetL' X.K X.w) := by
  intro pins s σ H vs us Q I r ⟨a, ns, ev, hq, h64, q⟩
  subst ev
  rw [Vals.ref1 r]
  obtain ⟨its, rv, pl, hz⟩ := I.list hq
  refine call_setL (P := X.prog) ns (I.ok.hd hc) pl.isList (by simpa using ints_of_vals rv) (by unfold scanBound; omega) fun h' tk c R hcn k => ?_
  have J : Inv X pins σ (upd H s.heap.objs.size (SetO X.w s.heap.objs.size (fun j => decide (j ∈ ns)) c)) { s with heap := h', toks := tk } := I.laid k (Nat.le_refl _) (setO_new R)
  obtain ⟨o, es, ep, t, ho, hex, hd, g, nd, hm, hb, hf, hn, hr, hl⟩ := R
  refine ⟨.ref _, _, J, rfl, q _ c (es.toList.map keyOf) (I.hok.fresh (Nat.le_refl _)) hcn nd (fun k => ?_) (by rw [List.length_map, Array.length_toList, hn])⟩
  rw [← hm k, decide_eq_true_eq]
/-- len of a set -/
theorem cr_lenSet {X : Cx} : CallR X (.builtin "len") (fun vs H Q => ∃ (a : Addr) (S : Int → Bool) (n : Nat), vs = [V.ref a] ∧ H a = some (SetO X.w a S n) ∧ n < 64 ∧ Q (.int (n : Nat)) H) := by
  intro pins s σ H vs us Q I r ⟨a, S, n, ev, ha, h64, q⟩
  subst ev
  rw [Vals.ref1 r]
  obtain ⟨o, es, ep, t, ho, hex, hd, g, nd, hm, hb, hf, hn, hr, hl⟩ := setO_get I ha
  exact call_len_set ho hex hd hf (by rw [hn]; omega) ⟨.int (n : Nat), H, I.tok _, ⟨_, by rw [hn]⟩, q⟩
end K3

set_option Elab.async false
set_option linter.all false
set_option maxRecDepth 100000
set_option maxHeartbeats 4000000
namespace K3
open PySem PySem.Spec PyProof.Rows L2
theorem ix_listK {X : Cx} {K : PySem.W.Frag} (e : X.K = K) : IxR X (rIxL K) := by
  subst e
  exact ix_list
theorem ix_tupK {X : Cx} {K : PySem.W.Frag} (e : X.K = K) : IxR X (rIxT K) := by
  subst e
  exact ix_tup
theorem mt_tixK {X : Cx} {K : PySem.W.Frag} (e : X.K = K) : MtR X "tuple.index" (rTix K) := by
  subst e
  exact mt_tixI
theorem flatten_one {x : V} : ∀ n : Nat, (List.replicate n [x]).flatten = List.replicate n x
  | 0 => rfl
  | n + 1 => by
    rw [List.replicate_succ, List.flatten_cons, flatten_one n, List.replicate_succ]
    rfl
theorem step_at {ns : List Int} {i : Nat} {x y : Int} : ns[i]? = some x → ns[i + 1]? = some y → (steps ns)[i]? = some (y - x) := by
  induction ns generalizing i with
  | nil => intro h; simp at h
  | cons n r ih =>
    intro h1 h2
    cases r with
    | nil => simp at h2
    | cons m q =>
      cases i with
      | zero =>
        obtain rfl : n = x := by simpa using h1
        obtain rfl : m = y := by simpa using h2
        rfl
      | succ i => exact ih (i := i) (by simpa using h1) (by simpa using h2)
/-- values as the document has them -/
structure Good (ns : List Int) : Prop where
  ne : ns ≠ []
  few : ns.length ≤ 32
  inn : ∀ n ∈ ns, -9999 ≤ n ∧ n ≤ 9999
/-- at a the form F -/
def IsF (K : PySem.W.Frag) (H : Hp) (a : Addr) : Form → Prop
  | .plain vs => ∃ q, SqT K H a [.str "plain", .ref q] ∧ SqT K H q (vs.map V.int)
  | .one n v => SqT K H a [.str "one", .int (n : Int), .int v]
  | .codes n u c => ∃ q r, SqT K H a [.str "codes", .int (n : Int), .ref q, .ref r] ∧ SqT K H q (u.map V.int) ∧ SqT K H r (c.map V.int)
  | .near n l s c => ∃ r, SqT K H a [.str "near", .int (n : Int), .int l, .int s, .ref r] ∧ SqT K H r (c.map V.int)
  | .steps n f l s c => ∃ r, SqT K H a [.str "steps", .int (n : Int), .int f, .int l, .int s, .ref r] ∧ SqT K H r (c.map V.int)
theorem IsF.same {K : PySem.W.Frag} {H H' : Hp} {a : Addr} {F : Form} (h : IsF K H a F) (s : Same H H') : IsF K H' a F := by
  cases F with
  | plain vs => obtain ⟨q, h1, h2⟩ := h; exact ⟨q, s.seqT h1, s.seqT h2⟩
  | one n v => exact s.seqT (show SqT K H a _ from h)
  | codes n u c => obtain ⟨q, r, h1, h2, h3⟩ := h; exact ⟨q, r, s.seqT h1, s.seqT h2, s.seqT h3⟩
  | near n l sp c => obtain ⟨r, h1, h2⟩ := h; exact ⟨r, s.seqT h1, s.seqT h2⟩
  | steps n f l sp c => obtain ⟨r, h1, h2⟩ := h; exact ⟨r, s.seqT h1, s.seqT h2⟩
/-- a tuple of which its object is known: it has no dict -/
def tyFt (x : V) (H : Hp) : Prop := ∃ t o xs, x = .ref t ∧ H t = some (.frz o (.tup xs)) ∧ o.cls = .type "tuple" ∧ o.dict = none
theorem ty_ft {X : Cx} : TyOk X "tuple" tyFt := by
  intro pins σ H s x v I r ⟨t, o, xs, ex, e, hc, hd⟩
  subst ex
  obtain rfl : v = Value.ref t := r
  have z : s.heap.get? t = some o := (I.hok t _ e).1
  refine ⟨⟨o, z, hc⟩, fun a ea => ?_⟩
  obtain rfl := Value.ref.inj ea
  exact ⟨o, z, hd⟩
theorem call_tupleF {X : Cx} : CallR X (.type "tuple") (fun xs H Q => ∃ p ys, xs = [.ref p] ∧ SqL X.K H p ys ∧ ∀ (l : Addr) (o : Obj), H l = none → o.cls = .type "tuple" → o.dict = none → Q (.ref l) (upd H l (.frz o (.tup ys)))) := by
  intro pins s σ H xs us Q I r ⟨p, ys, ex, hq, q⟩
  subst ex
  obtain ⟨u, rfl, rx⟩ := vals1 r
  cases rx
  obtain ⟨its, r', pl, hz⟩ := I.list hq
  have hlen := r'.length
  refine call_tuple_list pl.isList (fun h' kp => ?_) (by simp only [List.size_toArray]; omega)
  have I1 : Inv X pins σ H { s with heap := h' } := I.kept (t' := s.toks) kp
  have new : ObjOk X.prog X.w (upd H h'.objs.size (.frz { cls := .type "tuple", data := .seq its.toArray } (.tup ys))) (h'.push { cls := .type "tuple", data := .seq its.toArray }) h'.objs.size (.frz { cls := .type "tuple", data := .seq its.toArray } (.tup ys)) :=
    ⟨Heap.get?_push_size _ rfl, hz, its, r', IsTup.new _ _⟩
  exact ⟨.ref h'.objs.size, _, I1.laid (t' := s.toks) (fun b o e => Heap.get?_push_of_some _ e) (Nat.le_refl _) new, rfl, q _ _ (I1.hok.fresh (Nat.le_refl _)) rfl rfl⟩
theorem seqT_put {K : PySem.W.Frag} {H : Hp} {t D : Addr} {xs ys zs : List V} (h : SqT K H t xs) (hD : H D = some (.lst ys)) : SqT K (upd H D (.lst zs)) t xs := by
  rcases h with (h | ⟨o, h⟩) | h
  · exact .inl (.inl (by rw [upd_ne (ne_of h hD (by intro z; cases z))]; exact h))
  · exact .inl (.inr ⟨o, by rw [upd_ne (ne_of h hD (by intro z; cases z))]; exact h⟩)
  · exact .inr h
/-- a maker's promise -/
def spMk (K : PySem.W.Frag) (mk : List Int → Option Form) : Sp := fun vs H Q _ => ∃ (a : Addr) (ns : List Int), vs = [.ref a] ∧ SqL K H a (ns.map V.int) ∧ Good ns ∧
  (mk ns = none → ∀ H', Same H H' → Q .non H') ∧ (∀ F, mk ns = some F → ∀ (H' : Hp) (p : Addr), Same H H' → IsF K H' p F → Q (.ref p) H')
section
variable {P : Program} {w : World} {K : PySem.W.Frag} {mg : Str → Option Value} {base : Heap}
abbrev s_check_values : Stmt := top 27
abbrev N_check_values : List Str := ["values", "place", "value"]
abbrev P_check_values : List Str := ["values"]
theorem sc_check_values : FnScope N_check_values P_check_values (defScope s_check_values) := ⟨rfl, rfl, rfl, by decide +kernel, rfl, by decide +kernel, by decide +kernel⟩
def spChV (K : PySem.W.Frag) : Sp := fun vs H Q _ => ∃ (a : Addr) (ns : List Int), vs = [.ref a] ∧ SqL K H a (ns.map V.int) ∧ Good ns ∧ ∀ H', Same H H' → Q .non H'
theorem ok_check_values (T : Txt mg) (D : Df K mg "check_values" s_check_values P_check_values) : Fn P w K mg base CX0 1 "check_values" P_check_values (spChV K) := by
  refine D.ok sc_check_values (fun vs H Q E h => ?_) (fun f cdv A outer s H vs Q E hr h => ?_)
  · obtain ⟨a, ns, rfl, _⟩ := h
    rfl
  · obtain ⟨a, ns, rfl, hS, G, k⟩ := h
    have nd := sc_check_values.nd
    refine ⟨_, (pss_cons (ps_if (pt_cmpR op_eq (pe_callB call_len_seq (by rfl) T.b_len (by decide +kernel) (pa_cons (pv 0) pa_nil)) pe_int (nomark _))
  (pss_one ps_never)
  pss_nil)
  (pss_one (ps_for PassesOwn.never rfl (pi_enum (by rfl) T.b_enumerate (pa_cons (pv 0) pa_nil)) (pg_tup (by rfl) (pgs_cons (pg_name (i := 1) nd rfl (by first | exact Or.inl rfl | exact Or.inr rfl)) (pgs_cons (pg_name (i := 2) nd rfl (by first | exact Or.inl rfl | exact Or.inr rfl)) pgs_nil)))
  (pss_one (ps_if (PW.pt (pw_or (pt_cmpR op_ge (pv 1) (pe_gint T.c_MOST_VALUES) (nomark _)) (pw_or (pt_cmpR op_lt (pv 2) (pe_un un_neg (pe_gint T.c_MOST)) (nomark _)) (pw_or1 (pt_cmpR op_gt (pv 2) (pe_gint T.c_MOST) (nomark _))))))
  (pss_one ps_never)
  pss_nil))))), ?_⟩
    have hl : 0 < ns.length := List.length_pos_iff.mpr G.ne
    refine ⟨_, rfl, a, _, rfl, .inl hS, rfl, _, rfl, ?_⟩
    refine ite2 (fun c => ?_) (fun _ => ?_)
    · have c' := V.int.inj (of_decide_eq_true c)
      rw [List.length_map] at c'
      omega
    refine ⟨_, rfl, a, _, rfl, hS, for_it walk_enum (fun i σ H' => ∃ v1 v2, σ = [some (.ref a), v1, v2] ∧ Same H H') ⟨none, none, rfl, Same.refl H⟩ (fun i σ H' _ ⟨_, _, _, s5⟩ => s5.seq hS) ?_ ?_⟩
    · rintro i x σ H1 H2 hi ⟨v1, v2, rfl, s5⟩ ⟨T0, x0, y0, rfl, nT, rfl, e1, e2⟩
      obtain ⟨z, hz, rfl⟩ := map_at e2
      obtain rfl : V.int (i : Nat) = x0 := Option.some.inj e1
      obtain ⟨z0, z1⟩ := G.inn z (List.mem_of_getElem? hz)
      have hf := G.few
      rw [List.length_map] at hi
      refine ⟨T0, _, rfl, SqT.of upd_same, rfl, _, _, rfl, _, _, rfl, rfl, ?_⟩
      refine ⟨_, rfl, _, _, rfl, rfl, _, rfl, ?_⟩
      refine ite2 (fun c => absurd (of_decide_eq_true c) (by omega)) (fun _ => ?_)
      refine ⟨_, rfl, _, rfl, _, _, rfl, rfl, _, rfl, ?_⟩
      refine ite2 (fun c => absurd (of_decide_eq_true c) (by omega)) (fun _ => ?_)
      refine ⟨_, rfl, _, _, rfl, rfl, _, rfl, ?_⟩
      refine ite2 (fun c => absurd (of_decide_eq_true c) (by omega)) (fun _ => ?_)
      exact ⟨_, _, rfl, s5.upd' nT⟩
    · rintro σ H' ⟨v1, v2, rfl, s5⟩
      exact k _ s5
abbrev s_make_plain : Stmt := top 28
abbrev N_make_plain : List Str := ["values"]
abbrev P_make_plain : List Str := ["values"]
theorem sc_make_plain : FnScope N_make_plain P_make_plain (defScope s_make_plain) := ⟨rfl, rfl, rfl, by decide +kernel, rfl, by decide +kernel, by decide +kernel⟩
theorem ok_make_plain (T : Txt mg) (D : Df K mg "make_plain" s_make_plain P_make_plain) : Fn P w K mg base CX0 1 "make_plain" P_make_plain (spMk K mkPlain) := by
  refine D.ok sc_make_plain (fun vs H Q E h => ?_) (fun f cdv A outer s H vs Q E hr h => ?_)
  · obtain ⟨a, ns, rfl, _⟩ := h
    rfl
  · obtain ⟨a, ns, rfl, hS, G, k0, k⟩ := h
    have nd := sc_make_plain.nd
    refine ⟨_, (pss_one (ps_ret (pe_tup (pa_cons pe_str (pa_cons (pe_callTy call_tuple_of (by rfl) T.b_tuple (by decide +kernel) (pa_cons (pv 0) pa_nil)) pa_nil))))), ?_⟩
    refine ⟨_, rfl, a, _, rfl, .inl ⟨hS, fun q nq => ⟨(by show 2 ≤ sizeLine; decide), fun p np => ?_⟩⟩⟩
    exact k _ rfl _ p ((Same.upd nq).upd' np) ⟨q, SqT.of upd_same, SqT.of ((upd_ne (ne_of_none upd_same np)).trans upd_same)⟩
abbrev s_make_one : Stmt := top 29
abbrev N_make_one : List Str := ["values"]
abbrev P_make_one : List Str := ["values"]
theorem sc_make_one : FnScope N_make_one P_make_one (defScope s_make_one) := ⟨rfl, rfl, rfl, by decide +kernel, rfl, by decide +kernel, by decide +kernel⟩
theorem ok_make_one (T : Txt mg) (D : Df K mg "make_one" s_make_one P_make_one) : Fn P w K mg base CX0 1 "make_one" P_make_one (spMk K mkOne) := by
  refine D.ok sc_make_one (fun vs H Q E h => ?_) (fun f cdv A outer s H vs Q E hr h => ?_)
  · obtain ⟨a, ns, rfl, _⟩ := h
    rfl
  · obtain ⟨a, ns, rfl, hS, G, k0, k⟩ := h
    have nd := sc_make_one.nd
    refine ⟨_, (pss_cons (ps_if (pt_cmpR op_lt (pe_callB (cr_min rfl) (by rfl) T.b_min (by decide +kernel) (pa_cons (pv 0) pa_nil)) (pe_callB (cr_max rfl) (by rfl) T.b_max (by decide +kernel) (pa_cons (pv 0) pa_nil)) (nomark _))
  (pss_one (ps_ret pe_non))
  pss_nil)
  (pss_one (ps_ret (pe_tup (pa_cons pe_str (pa_cons (pe_callB call_len_seq (by rfl) T.b_len (by decide +kernel) (pa_cons (pv 0) pa_nil)) (pa_cons (pe_ix ix_list (pv 0) pe_int (fun _ _ => rfl)) pa_nil))))))), ?_⟩
    have hl : 0 < ns.length := List.length_pos_iff.mpr G.ne
    refine ⟨_, rfl, a, ns, rfl, hS, hl, fun m m1 m2 => ?_⟩
    refine ⟨_, rfl, a, ns, rfl, hS, hl, fun x x1 x2 => ⟨_, _, rfl, rfl, _, rfl, ?_⟩⟩
    rw [lmin_eq m1 m2, lmax_eq x1 x2]
    refine ite2 (fun c => k0 (if_pos (of_decide_eq_true c)) _ (Same.refl _)) (fun c => ?_)
    have c' : ¬ lmin ns < lmax ns := fun z => c (decide_eq_true z)
    refine ⟨_, rfl, a, _, rfl, .inl hS, _, rfl, a, _, 0, .int (ns.headD 0), rfl, rfl, hS, ?_, (by show 3 ≤ sizeLine; decide), fun p np => ?_⟩
    · obtain ⟨n, r, rfl⟩ : ∃ n r, ns = n :: r := List.exists_cons_of_ne_nil G.ne
      exact at0
    refine k _ (if_neg c') _ p (Same.upd np) ?_
    show SqT K _ p [.str "one", .int (ns.length : Int), .int (ns.headD 0)]
    rw [← List.length_map (f := V.int)]
    exact SqT.of upd_same
abbrev s_packed_from : Stmt := top 33
abbrev N_packed_from : List Str := ["low", "span", "numbers", "number"]
abbrev P_packed_from : List Str := ["low", "span", "numbers"]
theorem sc_packed_from : FnScope N_packed_from P_packed_from (defScope s_packed_from) := ⟨rfl, rfl, rfl, by decide +kernel, rfl, by decide +kernel, by decide +kernel⟩
def spPf (K : PySem.W.Frag) : Sp := fun vs H Q _ => ∃ (low span : Int) (a : Addr) (ns : List Int), vs = [.int low, .int span, .ref a] ∧ SqL K H a (ns.map V.int) ∧ 0 ≤ span ∧ span ≤ 9999 ∧ ns.length ≤ 32 ∧ (∀ n ∈ ns, low ≤ n ∧ n ≤ low + span) ∧
  ∀ (H' : Hp) (p : Addr), Same H H' → SqT K H' p ((packedFrom low span ns).map V.int) → Q (.ref p) H'
theorem ok_packed_from (T : Txt mg) (D : Df K mg "packed_from" s_packed_from P_packed_from) (G_packed : Fn P w K mg base CX0 2 "packed" P_packed (spPck K)) : Fn P w K mg base CX0 3 "packed_from" P_packed_from (spPf K) := by
  refine D.ok sc_packed_from (fun vs H Q E h => ?_) (fun f cdv A outer s H vs Q E hr h => ?_)
  · obtain ⟨low, span, a, ns, rfl, _⟩ := h
    rfl
  · obtain ⟨low, span, a, ns, rfl, hS, s0, s1, hl, hb, k⟩ := h
    have nd := sc_packed_from.nd
    refine ⟨_, (pss_cons (ps_if (pt_cmpR op_eq (pv 1) pe_int (nomark _))
  (pss_one (ps_ret (pe_tup pa_nil)))
  pss_nil)
  (pss_one (ps_ret (pe_c G_packed (hr.mono (by decide)) pass0 (pa_cons (pe_op op_add (pv 1) pe_int) (pa_cons (pe_lc (own := [("number", 3)]) (g := gName 3) (by rfl) nd  (pi_list (pv 2)) (blkOk_by (own := [("number", 3)]) (N := N_packed_from) (sc := defScope s_packed_from) (by decide +kernel)) (fun _ _ _ _ _ => pg_name (i := 3) nd rfl (Or.inl rfl)) (fun _ _ _ _ _ => pts_nil) (fun _ _ _ _ _ => (pe_op op_sub (pv 3) (pv 0)))) pa_nil)))))), ?_⟩
    refine ⟨_, rfl, rfl, _, rfl, ?_⟩
    refine ite2 (fun c => ?_) (fun c => ?_)
    · have c' : span = 0 := V.int.inj (of_decide_eq_true c)
      refine ⟨Nat.zero_le _, fun p np => k _ p (Same.upd np) ?_⟩
      unfold packedFrom
      rw [if_pos c']
      exact SqT.of upd_same
    · have c' : ¬ span = 0 := fun z => c (decide_eq_true (congrArg V.int z))
      refine ⟨_, rfl, _, _, rfl, rfl, _, rfl, a, rfl, ⟨_, hS⟩, fun D0 nD => ?_⟩
      refine lc_all walk_list (fun i H' => Same H H' ∧ H' D0 = some (.lst (((ns.take i).map (· - low)).map V.int))) ⟨Same.upd nD, upd_same⟩ (fun i H' _ ⟨s5, _⟩ => s5.seq hS) ?_ ?_
      · rintro i x H2 H3 hi ⟨s2, hD⟩ ⟨rfl, e⟩
        rw [List.length_map] at hi
        obtain ⟨z, hz, rfl⟩ := map_at e
        refine ⟨_, rfl, _, rfl, _, _, rfl, rfl, _, hD, ?_, Same.put s2 nD, ?_⟩
        · rw [List.length_map, List.length_map, List.length_take, sizeLine_eq]
          omega
        · rw [upd_same, take_more hz, List.map_append, List.map_append]
          rfl
      · rintro H2 ⟨s2, hD⟩
        rw [List.length_map, List.take_length] at hD
        refine ⟨span + 1, D0, ns.map (· - low), rfl, SqL.of hD, by omega, by omega, fun n hn => ?_, by rw [List.length_map]; omega, fun H3 p s3 np hp => ?_⟩
        · obtain ⟨m, hm, rfl⟩ := List.mem_map.mp hn
          have := hb m hm
          constructor <;> omega
        · refine k _ p (s2.trans s3) ?_
          unfold packedFrom
          rw [if_neg c']
          exact SqT.of hp
abbrev s_unpacked_from : Stmt := top 34
abbrev N_unpacked_from : List Str := ["low", "span", "cells", "many", "more"]
abbrev P_unpacked_from : List Str := ["low", "span", "cells", "many"]
theorem sc_unpacked_from : FnScope N_unpacked_from P_unpacked_from (defScope s_unpacked_from) := ⟨rfl, rfl, rfl, by decide +kernel, rfl, by decide +kernel, by decide +kernel⟩
def spUf (K : PySem.W.Frag) : Sp := fun vs H Q _ => ∃ (low span : Int) (a : Addr) (cs : List Int) (m : Nat), vs = [.int low, .int span, .ref a, .int m] ∧ SqT K H a (cs.map V.int) ∧ 0 ≤ span ∧ span ≤ 9999 ∧ cs.length ≤ 1000 ∧ m ≤ 1000 ∧
  ∀ (H' : Hp) (p : Addr), Same H H' → H p = none → H' p = some (.lst ((unpackedFrom low span cs m).map V.int)) → Q (.ref p) H'
theorem ok_unpacked_from (T : Txt mg) (D : Df K mg "unpacked_from" s_unpacked_from P_unpacked_from) (G_unpacked : Fn P w K mg base CX0 3 "unpacked" P_unpacked (spUnp K)) : Fn P w K mg base CX0 4 "unpacked_from" P_unpacked_from (spUf K) := by
  refine D.ok sc_unpacked_from (fun vs H Q E h => ?_) (fun f cdv A outer s H vs Q E hr h => ?_)
  · obtain ⟨low, span, a, cs, m, rfl, _⟩ := h
    rfl
  · obtain ⟨low, span, a, cs, m, rfl, hS, s0, s1, hl, hm, k⟩ := h
    have nd := sc_unpacked_from.nd
    refine ⟨_, (pss_cons (ps_if (pt_cmpR op_eq (pv 1) pe_int (nomark _))
  (pss_one (ps_ret (pe_op op_rep (pe_lst (pa_cons (pv 0) pa_nil)) (pv 3))))
  pss_nil)
  (pss_one (ps_ret (pe_lc (own := [("more", 4)]) (g := gName 4) (by rfl) nd  (pi_list (pe_c G_unpacked (hr.mono (by decide)) pass0 (pa_cons (pe_op op_add (pv 1) pe_int) (pa_cons (pv 2) (pa_cons (pv 3) pa_nil))))) (blkOk_by (own := [("more", 4)]) (N := N_unpacked_from) (sc := defScope s_unpacked_from) (by decide +kernel)) (fun _ _ _ _ _ => pg_name (i := 4) nd rfl (Or.inl rfl)) (fun _ _ _ _ _ => pts_nil) (fun _ _ _ _ _ => (pe_op op_add (pv 0) (pv 4))))))), ?_⟩
    refine ⟨_, rfl, rfl, _, rfl, ?_⟩
    refine ite2 (fun c => ?_) (fun c => ?_)
    · have c' : span = 0 := V.int.inj (of_decide_eq_true c)
      refine ⟨_, rfl, (by show 1 ≤ sizeLine; decide), fun p np => ?_⟩
      refine ⟨_, rfl, p, _, _, rfl, rfl, upd_same, by omega, by omega, ?_, fun q nq => ?_⟩
      · rw [sizeLine_eq]
        simp
        omega
      · refine k _ q ((Same.upd np).upd' nq) ((Same.upd np).free nq) ?_
        unfold unpackedFrom
        rw [if_pos c', upd_same, Int.toNat_natCast, flatten_one, List.map_replicate]
    · have c' : ¬ span = 0 := fun z => c (decide_eq_true (congrArg V.int z))
      refine ⟨_, rfl, _, _, rfl, rfl, _, rfl, _, rfl, span + 1, a, cs, m, rfl, hS, by omega, by omega, hl, fun H1 q s1 nq hq => ?_⟩
      refine ⟨q, rfl, ⟨_, SqL.of hq⟩, fun D0 nD => ?_⟩
      have nDH := s1.free nD
      refine lc_all walk_list (fun i H' => Same H H' ∧ H' q = some (.lst ((K3.unpacked (span + 1) cs m).map V.int)) ∧ H' D0 = some (.lst ((((K3.unpacked (span + 1) cs m).take i).map (low + ·)).map V.int))) ⟨s1.upd' nD, (upd_ne (ne_of_none hq nD)).trans hq, upd_same⟩ (fun i H' _ ⟨_, s5, _⟩ => SqL.of s5) ?_ ?_
      · rintro i x H2 H3 hi ⟨s2, hq2, hD⟩ ⟨rfl, e⟩
        rw [List.length_map] at hi
        obtain ⟨z, hz, rfl⟩ := map_at e
        have hm2 : (K3.unpacked (span + 1) cs m).length ≤ m := by
          unfold K3.unpacked
          rw [List.length_take]
          omega
        refine ⟨_, rfl, _, rfl, _, _, rfl, rfl, _, hD, ?_, Same.put s2 nDH, (upd_ne (ne_of_none hq nD)).trans hq2, ?_⟩
        · rw [List.length_map, List.length_map, List.length_take, sizeLine_eq]
          omega
        · rw [upd_same, take_more hz, List.map_append, List.map_append]
          rfl
      · rintro H2 ⟨s2, hq2, hD⟩
        rw [List.length_map, List.take_length] at hD
        refine k _ D0 s2 nDH ?_
        unfold unpackedFrom
        rw [if_neg c']
        exact hD
abbrev s_make_codes : Stmt := top 30
abbrev N_make_codes : List Str := ["values", "unlike", "codes", "value"]
abbrev P_make_codes : List Str := ["values"]
theorem sc_make_codes : FnScope N_make_codes P_make_codes (defScope s_make_codes) := ⟨rfl, rfl, rfl, by decide +kernel, rfl, by decide +kernel, by decide +kernel⟩
theorem ok_make_codes (T : Txt mg) (D : Df K mg "make_codes" s_make_codes P_make_codes) (G_packed : Fn P w K mg base CX0 2 "packed" P_packed (spPck K)) : Fn P w K mg base CX0 3 "make_codes" P_make_codes (spMk K mkCodes) := by
  refine D.ok sc_make_codes (fun vs H Q E h => ?_) (fun f cdv A outer s H vs Q E hr h => ?_)
  · obtain ⟨a, ns, rfl, _⟩ := h
    rfl
  · obtain ⟨a, ns, rfl, hS, G, k0, k⟩ := h
    have nd := sc_make_codes.nd
    refine ⟨_, (pss_cons (ps_set (i := 1) nd rfl (by first | exact Or.inl rfl | exact Or.inr rfl) (pe_callTy call_tupleF (by rfl) T.b_tuple (by decide +kernel) (pa_cons (pe_callB (cr_sortedSet rfl) (by rfl) T.b_sorted (by decide +kernel) (pa_cons (pe_callTy (cr_setL rfl) (by rfl) T.b_set (by decide +kernel) (pa_cons (pv 0) pa_nil)) pa_nil)) pa_nil)))
  (pss_cons (ps_if (pt_cmpR op_lt (pe_callB call_len_seq (by rfl) T.b_len (by decide +kernel) (pa_cons (pv 1) pa_nil)) pe_int (nomark _))
  (pss_one (ps_ret pe_non))
  pss_nil)
  (pss_cons (ps_setLc (i := 2) (own := [("value", 3)]) (g := gName 3) (by rfl) nd rfl rfl (sw_true rfl rfl rfl (by decide +kernel)) (pi_list (pv 0)) (blkOk_by (own := [("value", 3)]) (N := N_make_codes) (sc := defScope s_make_codes) (by decide +kernel)) (fun _ _ _ _ _ => pg_name (i := 3) nd rfl (Or.inl rfl)) (fun _ _ _ _ _ => pts_nil) (fun _ _ _ _ _ => (pe_mG ty_ft PySem.F.plainAttrs_tuple PySem.F.slot_tuple_index PySem.F.type_tuple_index (mt_tixK (K := K) rfl) (pv 1) (pa_cons (pv 3) pa_nil))))
  (pss_one (ps_ret (pe_tup (pa_cons pe_str (pa_cons (pe_callB call_len_seq (by rfl) T.b_len (by decide +kernel) (pa_cons (pv 0) pa_nil)) (pa_cons (pv 1) (pa_cons (pe_c G_packed (hr.mono (by decide)) pass0 (pa_cons (pe_callB call_len_seq (by rfl) T.b_len (by decide +kernel) (pa_cons (pv 1) pa_nil)) (pa_cons (pv 2) pa_nil))) pa_nil)))))))))), ?_⟩
    have hf := G.few
    refine ⟨_, rfl, a, ns, rfl, hS, by omega, fun p n ks np hn nk mk hk => ?_⟩
    refine ⟨p, _, n, rfl, upd_same, by omega, fun u q rises mem hu nq => ?_⟩
    have eu : u = usort ns := usort_eq rises fun k => (mem k).trans decide_eq_true_iff
    subst eu
    have nqH : H q = none := (Same.upd np).free nq
    refine ⟨q, _, rfl, SqL.of upd_same, fun t o nt oc od => ?_⟩
    suffices hh : ∀ H4 : Hp, Same H H4 → H4 t = some (.frz o (.tup ((usort ns).map V.int))) → _ from hh _ (((Same.upd np).upd' nq).upd' nt) upd_same
    intro H4 s3 ht4
    have ht : SqT K H4 t ((usort ns).map V.int) := .inl (.inr ⟨o, ht4⟩)
    refine ⟨_, rfl, t, _, rfl, .inr ht, _, _, rfl, rfl, _, rfl, ?_⟩
    refine ite2 (fun c => ?_) (fun c0 => ?_)
    · have c' : (((usort ns).map V.int).length : Int) < 2 := of_decide_eq_true c
      rw [List.length_map] at c'
      exact k0 (if_pos (by omega)) _ s3
    have c0' : ¬ (usort ns).length < 2 := fun z => c0 (decide_eq_true (by rw [List.length_map]; omega))
    refine ⟨_, rfl, a, rfl, ⟨_, s3.seq hS⟩, fun D0 nD => ?_⟩
    refine lc_all walk_list (fun i H' => Same H H' ∧ H' t = some (.frz o (.tup ((usort ns).map V.int))) ∧ H' D0 = some (.lst (((ns.take i).map fun v => (idx (usort ns) v : Int)).map V.int))) ⟨s3.upd' nD, Same.upd nD _ _ ht4, upd_same⟩ (fun i H' _ ⟨s5, _⟩ => s5.seq hS) ?_ ?_
    · rintro i x H2 H3 hi ⟨s2, ht2, hD⟩ ⟨rfl, e⟩
      rw [List.length_map] at hi
      obtain ⟨z, hz, rfl⟩ := map_at e
      have zm := (mem_usort z ns).mpr (List.mem_of_getElem? hz)
      refine ⟨_, rfl, ⟨t, o, _, rfl, ht2, oc, od⟩, _, rfl, t, usort ns, z, idx (usort ns) z, rfl, rfl, .inl (.inr ⟨o, ht2⟩), idx_get zm, fun m hm => idx_first hm, _, hD, ?_, Same.put s2 (s3.free nD), ?_, ?_⟩
      · rw [List.length_map, List.length_map, List.length_take, sizeLine_eq]
        omega
      · rw [upd_ne (ne_of ht2 hD (by intro z; cases z))]
        exact ht2
      · rw [upd_same, take_more hz, List.map_append, List.map_append]
        rfl
    · rintro H2 ⟨s2, ht3, hD⟩
      have ht2 : SqT K H2 t ((usort ns).map V.int) := .inl (.inr ⟨o, ht3⟩)
      rw [List.length_map, List.take_length] at hD
      have hu := usort_length ns
      refine ⟨_, rfl, a, _, rfl, .inl (s2.seq hS), _, rfl, _, rfl, t, _, rfl, .inr ht2, _, rfl, _, D0, ns.map (fun v => (idx (usort ns) v : Int)), rfl, SqL.of hD, ?_, ?_, fun n hn => ?_, by rw [List.length_map]; omega, fun H5 r s5 nr hr5 => ⟨(by show 4 ≤ sizeLine; decide), fun p np => ?_⟩⟩
      · rw [List.length_map]; omega
      · rw [List.length_map]; omega
      · obtain ⟨m, hm, rfl⟩ := List.mem_map.mp hn
        have := idx_lt ((mem_usort m ns).mpr hm)
        rw [List.length_map]
        constructor <;> omega
      · refine k _ (if_neg c0') _ p ((s2.trans s5).upd' np) ⟨t, r, ?_, (Same.upd np).seqT (s5.seqT ht2), (Same.upd np).seqT ?_⟩
        · rw [← List.length_map (f := V.int)]
          exact SqT.of upd_same
        · rw [List.length_map] at hr5
          exact SqT.of hr5
abbrev s_make_near : Stmt := top 31
abbrev N_make_near : List Str := ["values", "least", "span"]
abbrev P_make_near : List Str := ["values"]
theorem sc_make_near : FnScope N_make_near P_make_near (defScope s_make_near) := ⟨rfl, rfl, rfl, by decide +kernel, rfl, by decide +kernel, by decide +kernel⟩
theorem ok_make_near (T : Txt mg) (D : Df K mg "make_near" s_make_near P_make_near) (G_packed_from : Fn P w K mg base CX0 3 "packed_from" P_packed_from (spPf K)) : Fn P w K mg base CX0 4 "make_near" P_make_near (spMk K mkNear) := by
  refine D.ok sc_make_near (fun vs H Q E h => ?_) (fun f cdv A outer s H vs Q E hr h => ?_)
  · obtain ⟨a, ns, rfl, _⟩ := h
    rfl
  · obtain ⟨a, ns, rfl, hS, G, k0, k⟩ := h
    have nd := sc_make_near.nd
    refine ⟨_, (pss_cons (ps_set (i := 1) nd rfl (by first | exact Or.inl rfl | exact Or.inr rfl) (pe_callB (cr_min rfl) (by rfl) T.b_min (by decide +kernel) (pa_cons (pv 0) pa_nil)))
  (pss_cons (ps_set (i := 2) nd rfl (by first | exact Or.inl rfl | exact Or.inr rfl) (pe_op op_sub (pe_callB (cr_max rfl) (by rfl) T.b_max (by decide +kernel) (pa_cons (pv 0) pa_nil)) (pv 1)))
  (pss_cons (ps_if (PW.pt (pw_or (pt_cmpR op_lt (pv 2) pe_int (nomark _)) (pw_or1 (pt_cmpR op_gt (pv 2) (pe_gint T.c_MOST) (nomark _)))))
  (pss_one (ps_ret pe_non))
  pss_nil)
  (pss_one (ps_ret (pe_tup (pa_cons pe_str (pa_cons (pe_callB call_len_seq (by rfl) T.b_len (by decide +kernel) (pa_cons (pv 0) pa_nil)) (pa_cons (pv 1) (pa_cons (pv 2) (pa_cons (pe_c G_packed_from (hr.mono (by decide)) pass0 (pa_cons (pv 1) (pa_cons (pv 2) (pa_cons (pv 0) pa_nil)))) pa_nil))))))))))), ?_⟩
    have hl : 0 < ns.length := List.length_pos_iff.mpr G.ne
    refine ⟨_, rfl, a, ns, rfl, hS, hl, fun m m1 m2 => ?_⟩
    refine ⟨_, rfl, a, ns, rfl, hS, hl, fun x x1 x2 => ⟨_, rfl, _, _, rfl, rfl, ?_⟩⟩
    obtain rfl := lmin_eq m1 m2
    obtain rfl := lmax_eq x1 x2
    refine ⟨_, rfl, _, _, rfl, rfl, _, rfl, ?_⟩
    refine ite2 (fun c => k0 (if_pos (.inl (of_decide_eq_true c))) _ (Same.refl _)) (fun c1 => ?_)
    refine ⟨_, rfl, _, _, rfl, rfl, _, rfl, ?_⟩
    refine ite2 (fun c => k0 (if_pos (.inr (of_decide_eq_true c))) _ (Same.refl _)) (fun c2 => ?_)
    have c1' : ¬ lmax ns - lmin ns < 1 := fun z => c1 (decide_eq_true z)
    have c2' : ¬ 9999 < lmax ns - lmin ns := fun z => c2 (decide_eq_true z)
    refine ⟨_, rfl, a, _, rfl, .inl hS, _, rfl, _, rfl, _, rfl, _, rfl, _, rfl, lmin ns, lmax ns - lmin ns, a, ns, rfl, hS, by omega, by omega, G.few, between G.ne, fun H1 q s1 hq => ⟨(by show 5 ≤ sizeLine; decide), fun p np => ?_⟩⟩
    refine k _ (if_neg (fun z => z.elim c1' c2')) _ p (s1.upd' np) ⟨q, ?_, (Same.upd np).seqT hq⟩
    rw [← List.length_map (f := V.int)]
    exact SqT.of upd_same
abbrev s_make_steps : Stmt := top 32
abbrev N_make_steps : List Str := ["values", "steps", "at", "low", "span"]
abbrev P_make_steps : List Str := ["values"]
theorem sc_make_steps : FnScope N_make_steps P_make_steps (defScope s_make_steps) := ⟨rfl, rfl, rfl, by decide +kernel, rfl, by decide +kernel, by decide +kernel⟩
theorem ok_make_steps (T : Txt mg) (D : Df K mg "make_steps" s_make_steps P_make_steps) (G_packed_from : Fn P w K mg base CX0 3 "packed_from" P_packed_from (spPf K)) : Fn P w K mg base CX0 4 "make_steps" P_make_steps (spMk K mkSteps) := by
  refine D.ok sc_make_steps (fun vs H Q E h => ?_) (fun f cdv A outer s H vs Q E hr h => ?_)
  · obtain ⟨a, ns, rfl, _⟩ := h
    rfl
  · obtain ⟨a, ns, rfl, hS, G, k0, k⟩ := h
    have nd := sc_make_steps.nd
    refine ⟨_, (pss_cons (ps_if (pt_cmpR op_lt (pe_callB call_len_seq (by rfl) T.b_len (by decide +kernel) (pa_cons (pv 0) pa_nil)) pe_int (nomark _))
  (pss_one (ps_ret pe_non))
  pss_nil)
  (pss_cons (ps_setLc (i := 1) (own := [("at", 2)]) (g := gName 2) (by rfl) nd rfl rfl (sw_true rfl rfl rfl (by decide +kernel)) (pi_range2 (by rfl) T.b_range (pa_cons pe_int (pa_cons (pe_callB call_len_seq (by rfl) T.b_len (by decide +kernel) (pa_cons (pv 0) pa_nil)) pa_nil))) (blkOk_by (own := [("at", 2)]) (N := N_make_steps) (sc := defScope s_make_steps) (by decide +kernel)) (fun _ _ _ _ _ => pg_name (i := 2) nd rfl (Or.inl rfl)) (fun _ _ _ _ _ => pts_nil) (fun _ _ _ _ _ => (pe_op op_sub (pe_ix (ix_listK (K := K) rfl) (pv 0) (pv 2) (fun _ _ => rfl)) (pe_ix (ix_listK (K := K) rfl) (pv 0) (pe_op op_sub (pv 2) pe_int) (fun _ _ => rfl)))))
  (pss_cons (ps_set (i := 3) nd rfl (by first | exact Or.inl rfl | exact Or.inr rfl) (pe_callB (cr_min rfl) (by rfl) T.b_min (by decide +kernel) (pa_cons (pv 1) pa_nil)))
  (pss_cons (ps_set (i := 4) nd rfl (by first | exact Or.inl rfl | exact Or.inr rfl) (pe_op op_sub (pe_callB (cr_max rfl) (by rfl) T.b_max (by decide +kernel) (pa_cons (pv 1) pa_nil)) (pv 3)))
  (pss_cons (ps_if (pt_cmpR op_gt (pv 4) (pe_gint T.c_MOST) (nomark _))
  (pss_one (ps_ret pe_non))
  pss_nil)
  (pss_one (ps_ret (pe_tup (pa_cons pe_str (pa_cons (pe_callB call_len_seq (by rfl) T.b_len (by decide +kernel) (pa_cons (pv 0) pa_nil)) (pa_cons (pe_ix ix_list (pv 0) pe_int (fun _ _ => rfl)) (pa_cons (pv 3) (pa_cons (pv 4) (pa_cons (pe_c G_packed_from (hr.mono (by decide)) pass0 (pa_cons (pv 3) (pa_cons (pv 4) (pa_cons (pv 1) pa_nil)))) pa_nil)))))))))))))), ?_⟩
    have hf := G.few
    refine ⟨_, rfl, a, _, rfl, .inl hS, _, _, rfl, rfl, _, rfl, ?_⟩
    refine ite2 (fun c => ?_) (fun c0 => ?_)
    · have c' : ((ns.map V.int).length : Int) < 2 := of_decide_eq_true c
      rw [List.length_map] at c'
      exact k0 (if_pos (by omega)) _ (Same.refl _)
    have c0' : ¬ ns.length < 2 := fun z => c0 (decide_eq_true (by rw [List.length_map]; omega))
    have hst := steps_length ns
    refine ⟨_, rfl, a, _, rfl, .inl hS, 1, _, rfl, ⟨by decide, by decide, by omega, by rw [List.length_map]; omega⟩, fun D0 nD => ?_⟩
    have en : (((ns.map V.int).length : Int) - 1).toNat = (steps ns).length := by
      rw [List.length_map, hst]
      omega
    rw [en]
    refine lc_all (walk_range (lo := 1)) (fun i H' => Same H H' ∧ H' D0 = some (.lst (((steps ns).take i).map V.int))) ⟨Same.upd nD, upd_same⟩ (fun _ _ _ _ => True.intro) ?_ ?_
    · rintro i x H2 H3 hi ⟨s2, hD⟩ ⟨rfl, rfl⟩
      have h1 : ns[i]? = some ns[i] := List.getElem?_eq_getElem (by omega)
      have h2 : ns[i + 1]? = some ns[i + 1] := List.getElem?_eq_getElem (by omega)
      have hs := step_at h1 h2
      refine ⟨_, rfl, _, rfl, a, _, _, .int ns[i + 1], rfl, rfl, s2.seq hS, at_of (j := i + 1) (by omega) (by rw [List.getElem?_map, h2]; rfl), _, rfl, _, rfl, _, _, rfl, rfl, a, _, _, .int ns[i], rfl, rfl, s2.seq hS, at_of (j := i) (by omega) (by rw [List.getElem?_map, h1]; rfl), _, _, rfl, rfl, _, hD, ?_, Same.put s2 nD, ?_⟩
      · rw [List.length_map, List.length_take, sizeLine_eq]
        omega
      · rw [upd_same, take_more hs, List.map_append]
        rfl
    · rintro H2 ⟨s2, hD⟩
      rw [List.take_length] at hD
      have hq := SqL.of (K := K) hD
      have hl : 0 < (steps ns).length := by omega
      refine ⟨_, rfl, D0, steps ns, rfl, hq, hl, fun m m1 m2 => ?_⟩
      refine ⟨_, rfl, D0, steps ns, rfl, hq, hl, fun x x1 x2 => ⟨_, rfl, _, _, rfl, rfl, ?_⟩⟩
      obtain rfl := lmin_eq m1 m2
      obtain rfl := lmax_eq x1 x2
      refine ⟨_, rfl, _, _, rfl, rfl, _, rfl, ?_⟩
      refine ite2 (fun c => ?_) (fun c2 => ?_)
      · refine k0 ?_ _ s2
        unfold mkSteps
        rw [if_neg c0', if_pos (of_decide_eq_true c)]
      have c2' : ¬ 9999 < lmax (steps ns) - lmin (steps ns) := fun z => c2 (decide_eq_true z)
      refine ⟨_, rfl, a, _, rfl, .inl (s2.seq hS), _, rfl, a, _, 0, .int (ns.headD 0), rfl, rfl, s2.seq hS, ?_, _, rfl, _, rfl, _, rfl, _, rfl, _, rfl, _, _, D0, steps ns, rfl, hq, span_nn (steps_ne c0'), by omega, by omega, between (steps_ne c0'), fun H5 r s5 hr5 => ⟨(by show 6 ≤ sizeLine; decide), fun p np => ?_⟩⟩
      · obtain ⟨n, r, rfl⟩ : ∃ n r, ns = n :: r := List.exists_cons_of_ne_nil G.ne
        exact at0
      · have em : mkSteps ns = some (.steps ns.length (ns.headD 0) (lmin (steps ns)) (lmax (steps ns) - lmin (steps ns)) (packedFrom (lmin (steps ns)) (lmax (steps ns) - lmin (steps ns)) (steps ns))) := by
          unfold mkSteps
          rw [if_neg c0', if_neg c2']
        refine k _ em _ p ((s2.trans s5).upd' np) ⟨r, ?_, (Same.upd np).seqT hr5⟩
        · rw [← List.length_map (f := V.int)]
          exact SqT.of upd_same
end
end K3

set_option Elab.async false
set_option linter.all false
set_option maxRecDepth 100000
set_option maxHeartbeats 4000000
namespace K3
open PySem PySem.Spec PyProof.Rows L2
theorem tyX_seqT {K : PySem.W.Frag} {H : Hp} {t : Addr} {xs : List V} (h : SqT K H t xs) : TyX K H (.ref t) (.type "tuple") := by
  rcases h with (h | ⟨o, h⟩) | h
  · exact .base (.tup h)
  · exact .fTuple h
  · obtain ⟨o, _, _, e, c, _⟩ := h
    exact .kTuple e c
/-- a form whose parts have their sizes -/
def FOk : Form → Prop
  | .plain vs => vs.length ≤ 1000
  | .one n _ => n ≤ 1000
  | .codes n u c => 2 ≤ u.length ∧ u.length ≤ 10000 ∧ c.length ≤ 1000 ∧ n ≤ 1000
  | .near n _ s c => 0 ≤ s ∧ s ≤ 9999 ∧ c.length ≤ 1000 ∧ n ≤ 1000
  | .steps n _ _ s c => 0 ≤ s ∧ s ≤ 9999 ∧ c.length ≤ 1000 ∧ 1 ≤ n ∧ n ≤ 1000
def isPlain : Form → Prop | .plain _ => True | _ => False
def isOne : Form → Prop | .one _ _ => True | _ => False
def isCodes : Form → Prop | .codes _ _ _ => True | _ => False
def isNear : Form → Prop | .near _ _ _ _ => True | _ => False
def isSteps : Form → Prop | .steps _ _ _ _ _ => True | _ => False
/-- a reader's promise, for forms of its kind -/
def spRd (K : PySem.W.Frag) (kind : Form → Prop) : Sp := fun vs H Q _ => ∃ (a : Addr) (F : Form), vs = [.ref a] ∧ kind F ∧ IsF K H a F ∧ FOk F ∧
  ∀ (H' : Hp) (p : Addr), Same H H' → H p = none → H' p = some (.lst ((readF F).map V.int)) → Q (.ref p) H'
theorem digits_in {b : Int} (hb : 0 < b) : ∀ (k : Nat) (c : Int), ∀ d ∈ digits b k c, 0 ≤ d ∧ d < b
  | 0, _, d, h => nomatch h
  | k + 1, c, d, h => by
    rcases List.mem_cons.mp h with e | e
    · subst e
      exact ⟨Int.emod_nonneg _ (by omega), Int.emod_lt_of_pos _ hb⟩
    · exact digits_in hb k _ d e
theorem unpacked_in {b : Int} (hb : 0 < b) {cs : List Int} {n : Nat} : ∀ d ∈ K3.unpacked b cs n, 0 ≤ d ∧ d < b := fun d h => by
  obtain ⟨c, _, e⟩ := List.mem_flatMap.mp (List.mem_of_mem_take h)
  exact digits_in hb _ _ d e
theorem unpacked_le {b : Int} {cs : List Int} {n : Nat} : (K3.unpacked b cs n).length ≤ n := by
  unfold K3.unpacked
  rw [List.length_take]
  omega
theorem unpackedFrom_le {l s : Int} {cs : List Int} {n : Nat} : (unpackedFrom l s cs n).length ≤ n := by
  unfold unpackedFrom
  split
  · rw [List.length_replicate]; exact Nat.le_refl _
  · rw [List.length_map]; exact unpacked_le
theorem runs_snoc : ∀ (v : Int) (l : List Int) (x : Int), runs v (l ++ [x]) = runs v l ++ [(runs v l).getLastD 0 + x]
  | v, [], x => rfl
  | v, s :: r, x => by
    show v :: runs (v + s) (r ++ [x]) = v :: runs (v + s) r ++ [(v :: runs (v + s) r).getLastD 0 + x]
    rw [runs_snoc (v + s) r x]
    have e : (v :: runs (v + s) r).getLastD 0 = (runs (v + s) r).getLastD 0 := by
      cases r <;> rfl
    rw [e]
    rfl
theorem runs_ne (v : Int) (l : List Int) : runs v l ≠ [] := by
  cases l <;> exact List.cons_ne_nil _ _
theorem runs_length : ∀ (v : Int) (l : List Int), (runs v l).length = l.length + 1
  | _, [] => rfl
  | v, s :: r => congrArg Nat.succ (runs_length (v + s) r)
theorem at_last {ns : List Int} (h : ns ≠ []) : atI (ns.map V.int) (-1) = some (.int (ns.getLastD 0)) := by
  obtain ⟨l, x, rfl⟩ : ∃ l x, ns = l ++ [x] := ⟨ns.dropLast, ns.getLast h, (List.dropLast_concat_getLast h).symm⟩
  rw [List.map_append]
  have e : (l ++ [x]).getLastD 0 = x := by simp
  rw [e]
  exact atI_last _ _
section
variable {P : Program} {w : World} {K : PySem.W.Frag} {mg : Str → Option Value} {base : Heap}
abbrev s_read_plain : Stmt := top 35
abbrev N_read_plain : List Str := ["form"]
abbrev P_read_plain : List Str := ["form"]
theorem sc_read_plain : FnScope N_read_plain P_read_plain (defScope s_read_plain) := ⟨rfl, rfl, rfl, by decide +kernel, rfl, by decide +kernel, by decide +kernel⟩
theorem ok_read_plain (T : Txt mg) (D : Df K mg "read_plain" s_read_plain P_read_plain) : Fn P w K mg base CX0 1 "read_plain" P_read_plain (spRd K isPlain) := by
  refine D.ok sc_read_plain (fun vs H Q E h => ?_) (fun f cdv A outer s H vs Q E hr h => ?_)
  · obtain ⟨a, F, rfl, _⟩ := h
    rfl
  · obtain ⟨a, F, rfl, kd, hF, ok, k⟩ := h
    have nd := sc_read_plain.nd
    refine ⟨_, (pss_one (ps_ret (pe_callTy call_list_of (by rfl) T.b_list (by decide +kernel) (pa_cons (pe_ix ix_tup (pv 0) pe_int (fun _ _ => rfl)) pa_nil)))), ?_⟩
    cases F with
    | plain vs =>
      obtain ⟨q, h1, h2⟩ := hF
      refine ⟨_, rfl, a, _, 1, _, rfl, rfl, h1, rfl, q, _, rfl, .inr h2, fun l nl => ?_⟩
      exact k _ l (Same.upd nl) nl upd_same
    | _ => exact (show False from kd).elim
abbrev s_read_one : Stmt := top 36
abbrev N_read_one : List Str := ["form", "_", "many", "value"]
abbrev P_read_one : List Str := ["form"]
theorem sc_read_one : FnScope N_read_one P_read_one (defScope s_read_one) := ⟨rfl, rfl, rfl, by decide +kernel, rfl, by decide +kernel, by decide +kernel⟩
theorem ok_read_one (T : Txt mg) (D : Df K mg "read_one" s_read_one P_read_one) : Fn P w K mg base CX0 1 "read_one" P_read_one (spRd K isOne) := by
  refine D.ok sc_read_one (fun vs H Q E h => ?_) (fun f cdv A outer s H vs Q E hr h => ?_)
  · obtain ⟨a, F, rfl, _⟩ := h
    rfl
  · obtain ⟨a, F, rfl, kd, hF, ok, k⟩ := h
    have nd := sc_read_one.nd
    refine ⟨_, (pss_cons (ps_asg (pv 0) (pg_tup (by rfl) (pgs_cons (pg_name (i := 1) nd rfl (by first | exact Or.inl rfl | exact Or.inr rfl)) (pgs_cons (pg_name (i := 2) nd rfl (by first | exact Or.inl rfl | exact Or.inr rfl)) (pgs_cons (pg_name (i := 3) nd rfl (by first | exact Or.inl rfl | exact Or.inr rfl)) pgs_nil)))))
  (pss_one (ps_ret (pe_op op_rep (pe_lst (pa_cons (pv 3) pa_nil)) (pv 2))))), ?_⟩
    cases F with
    | one n v =>
      have ok : n ≤ 1000 := ok
      refine ⟨_, rfl, a, _, rfl, (show SqT K H a _ from hF), rfl, _, _, rfl, _, _, rfl, _, _, rfl, rfl, ?_⟩
      refine ⟨_, rfl, (by show 1 ≤ sizeLine; decide), fun p np => ⟨_, rfl, p, _, _, rfl, rfl, upd_same, by omega, by omega, ?_, fun q nq => ?_⟩⟩
      · rw [sizeLine_eq]
        simp
        omega
      · refine k _ q ((Same.upd np).upd' nq) ((Same.upd np).free nq) ?_
        rw [upd_same, Int.toNat_natCast, flatten_one]
        show _ = some (HO.lst ((List.replicate n v).map V.int))
        rw [List.map_replicate]
    | _ => exact (show False from kd).elim
abbrev s_read_codes : Stmt := top 37
abbrev N_read_codes : List Str := ["form", "_", "many", "unlike", "cells", "code"]
abbrev P_read_codes : List Str := ["form"]
theorem sc_read_codes : FnScope N_read_codes P_read_codes (defScope s_read_codes) := ⟨rfl, rfl, rfl, by decide +kernel, rfl, by decide +kernel, by decide +kernel⟩
theorem ok_read_codes (T : Txt mg) (D : Df K mg "read_codes" s_read_codes P_read_codes) (G_unpacked : Fn P w K mg base CX0 3 "unpacked" P_unpacked (spUnp K)) : Fn P w K mg base CX0 4 "read_codes" P_read_codes (spRd K isCodes) := by
  refine D.ok sc_read_codes (fun vs H Q E h => ?_) (fun f cdv A outer s H vs Q E hr h => ?_)
  · obtain ⟨a, F, rfl, _⟩ := h
    rfl
  · obtain ⟨a, F, rfl, kd, hF, ok, k⟩ := h
    have nd := sc_read_codes.nd
    refine ⟨_, (pss_cons (ps_asg (pv 0) (pg_tup (by rfl) (pgs_cons (pg_name (i := 1) nd rfl (by first | exact Or.inl rfl | exact Or.inr rfl)) (pgs_cons (pg_name (i := 2) nd rfl (by first | exact Or.inl rfl | exact Or.inr rfl)) (pgs_cons (pg_name (i := 3) nd rfl (by first | exact Or.inl rfl | exact Or.inr rfl)) (pgs_cons (pg_name (i := 4) nd rfl (by first | exact Or.inl rfl | exact Or.inr rfl)) pgs_nil))))))
  (pss_one (ps_ret (pe_lc (own := [("code", 5)]) (g := gName 5) (by rfl) nd  (pi_list (pe_c G_unpacked (hr.mono (by decide)) pass0 (pa_cons (pe_callB call_len_seq (by rfl) T.b_len (by decide +kernel) (pa_cons (pv 3) pa_nil)) (pa_cons (pv 4) (pa_cons (pv 2) pa_nil))))) (blkOk_by (own := [("code", 5)]) (N := N_read_codes) (sc := defScope s_read_codes) (by decide +kernel)) (fun _ _ _ _ _ => pg_name (i := 5) nd rfl (Or.inl rfl)) (fun _ _ _ _ _ => pts_nil) (fun _ _ _ _ _ => (pe_ix (ix_tupK (K := K) rfl) (pv 3) (pv 5) (fun _ _ => rfl))))))), ?_⟩
    cases F with
    | codes n u c =>
      obtain ⟨q, r, h1, h2, h3⟩ := hF
      obtain ⟨o1, o2, o3, o4⟩ := ok
      refine ⟨_, rfl, a, _, rfl, h1, rfl, _, _, rfl, _, _, rfl, _, _, rfl, _, _, rfl, rfl, ?_⟩
      refine ⟨_, rfl, q, _, rfl, .inr h2, _, rfl, _, rfl, _, r, c, n, rfl, h3, by rw [List.length_map]; omega, by rw [List.length_map]; omega, o3, fun H1 t s1 nt ht => ?_⟩
      rw [List.length_map] at ht
      have ht : H1 t = some (.lst ((K3.unpacked (u.length : Int) c n).map V.int)) := ht
      refine ⟨t, rfl, ⟨_, SqL.of ht⟩, fun D0 nD => ?_⟩
      have inn := unpacked_in (b := (u.length : Int)) (cs := c) (n := n) (by omega)
      have len := unpacked_le (b := (u.length : Int)) (cs := c) (n := n)
      refine lc_all walk_list (fun i H' => Same H H' ∧ H' t = some (.lst ((K3.unpacked (u.length : Int) c n).map V.int)) ∧ H' D0 = some (.lst ((((K3.unpacked (u.length : Int) c n).take i).map fun k => u.getD k.toNat 0).map V.int))) ⟨s1.upd' nD, (upd_ne (ne_of_none ht nD)).trans ht, upd_same⟩ (fun i H' _ ⟨_, s5, _⟩ => SqL.of s5) ?_ ?_
      · rintro i x H2 H3 hi ⟨s2, ht2, hD⟩ ⟨rfl, e⟩
        rw [List.length_map] at hi
        obtain ⟨z, hz, rfl⟩ := map_at e
        obtain ⟨z0, z1⟩ := inn z (List.mem_of_getElem? hz)
        obtain ⟨j, rfl⟩ : ∃ j : Nat, z = (j : Int) := ⟨z.toNat, by omega⟩
        have hj : j < u.length := by omega
        have hu : u[j]? = some (u.getD j 0) := by rw [List.getD_eq_getElem?_getD, List.getElem?_eq_getElem hj]; rfl
        refine ⟨_, rfl, _, rfl, q, _, _, _, rfl, rfl, s2.seqT h2, atI_nat (by rw [List.getElem?_map, hu]; rfl), _, hD, ?_, Same.put s2 (s1.free nD), (upd_ne (ne_of_none ht nD)).trans ht2, ?_⟩
        · rw [List.length_map, List.length_map, List.length_take, sizeLine_eq]
          omega
        · rw [upd_same, take_more hz, List.map_append, List.map_append]
          rfl
      · rintro H2 ⟨s2, ht2, hD⟩
        rw [List.length_map, List.take_length] at hD
        exact k _ D0 s2 (s1.free nD) hD
    | _ => exact (show False from kd).elim
abbrev s_read_near : Stmt := top 38
abbrev N_read_near : List Str := ["form", "_", "many", "least", "span", "cells"]
abbrev P_read_near : List Str := ["form"]
theorem sc_read_near : FnScope N_read_near P_read_near (defScope s_read_near) := ⟨rfl, rfl, rfl, by decide +kernel, rfl, by decide +kernel, by decide +kernel⟩
theorem ok_read_near (T : Txt mg) (D : Df K mg "read_near" s_read_near P_read_near) (G_unpacked_from : Fn P w K mg base CX0 4 "unpacked_from" P_unpacked_from (spUf K)) : Fn P w K mg base CX0 5 "read_near" P_read_near (spRd K isNear) := by
  refine D.ok sc_read_near (fun vs H Q E h => ?_) (fun f cdv A outer s H vs Q E hr h => ?_)
  · obtain ⟨a, F, rfl, _⟩ := h
    rfl
  · obtain ⟨a, F, rfl, kd, hF, ok, k⟩ := h
    have nd := sc_read_near.nd
    refine ⟨_, (pss_cons (ps_asg (pv 0) (pg_tup (by rfl) (pgs_cons (pg_name (i := 1) nd rfl (by first | exact Or.inl rfl | exact Or.inr rfl)) (pgs_cons (pg_name (i := 2) nd rfl (by first | exact Or.inl rfl | exact Or.inr rfl)) (pgs_cons (pg_name (i := 3) nd rfl (by first | exact Or.inl rfl | exact Or.inr rfl)) (pgs_cons (pg_name (i := 4) nd rfl (by first | exact Or.inl rfl | exact Or.inr rfl)) (pgs_cons (pg_name (i := 5) nd rfl (by first | exact Or.inl rfl | exact Or.inr rfl)) pgs_nil)))))))
  (pss_one (ps_ret (pe_c G_unpacked_from (hr.mono (by decide)) pass0 (pa_cons (pv 3) (pa_cons (pv 4) (pa_cons (pv 5) (pa_cons (pv 2) pa_nil)))))))), ?_⟩
    cases F with
    | near n l sp c =>
      obtain ⟨r, h1, h3⟩ := hF
      obtain ⟨o1, o2, o3, o4⟩ := ok
      refine ⟨_, rfl, a, _, rfl, h1, rfl, _, _, rfl, _, _, rfl, _, _, rfl, _, _, rfl, _, _, rfl, rfl, ?_⟩
      exact ⟨_, rfl, _, rfl, _, rfl, _, rfl, l, sp, r, c, n, rfl, h3, o1, o2, o3, o4, fun H1 t s1 nt ht => k _ t s1 nt ht⟩
    | _ => exact (show False from kd).elim
abbrev s_read_steps : Stmt := top 39
abbrev N_read_steps : List Str := ["form", "_", "many", "first", "low", "span", "cells", "values", "step"]
abbrev P_read_steps : List Str := ["form"]
theorem sc_read_steps : FnScope N_read_steps P_read_steps (defScope s_read_steps) := ⟨rfl, rfl, rfl, by decide +kernel, rfl, by decide +kernel, by decide +kernel⟩
theorem ok_read_steps (T : Txt mg) (D : Df K mg "read_steps" s_read_steps P_read_steps) (G_unpacked_from : Fn P w K mg base CX0 4 "unpacked_from" P_unpacked_from (spUf K)) : Fn P w K mg base CX0 5 "read_steps" P_read_steps (spRd K isSteps) := by
  refine D.ok sc_read_steps (fun vs H Q E h => ?_) (fun f cdv A outer s H vs Q E hr h => ?_)
  · obtain ⟨a, F, rfl, _⟩ := h
    rfl
  · obtain ⟨a, F, rfl, kd, hF, ok, k⟩ := h
    have nd := sc_read_steps.nd
    refine ⟨_, (pss_cons (ps_asg (pv 0) (pg_tup (by rfl) (pgs_cons (pg_name (i := 1) nd rfl (by first | exact Or.inl rfl | exact Or.inr rfl)) (pgs_cons (pg_name (i := 2) nd rfl (by first | exact Or.inl rfl | exact Or.inr rfl)) (pgs_cons (pg_name (i := 3) nd rfl (by first | exact Or.inl rfl | exact Or.inr rfl)) (pgs_cons (pg_name (i := 4) nd rfl (by first | exact Or.inl rfl | exact Or.inr rfl)) (pgs_cons (pg_name (i := 5) nd rfl (by first | exact Or.inl rfl | exact Or.inr rfl)) (pgs_cons (pg_name (i := 6) nd rfl (by first | exact Or.inl rfl | exact Or.inr rfl)) pgs_nil))))))))
  (pss_cons (ps_set (i := 7) nd rfl (by first | exact Or.inl rfl | exact Or.inr rfl) (pe_lst (pa_cons (pv 3) pa_nil)))
  (pss_cons (ps_for PassesOwn.never rfl (pi_list (pe_c G_unpacked_from (hr.mono (by decide)) pass0 (pa_cons (pv 4) (pa_cons (pv 5) (pa_cons (pv 6) (pa_cons (pe_op op_sub (pv 2) pe_int) pa_nil)))))) (pg_name (i := 8) nd rfl (by first | exact Or.inl rfl | exact Or.inr rfl))
  (pss_one (ps_expr (pe_bm PySem.F.plainAttrs_list PySem.F.slot_list_append PySem.F.type_list_append mt_append (pv 7) (pa_cons (pe_op op_add (pe_ix ix_list (pv 7) (pe_un un_neg pe_int) (fun _ _ => rfl)) (pv 8)) pa_nil)))))
  (pss_one (ps_ret (pv 7)))))), ?_⟩
    cases F with
    | steps n f0 l sp c =>
      obtain ⟨r, h1, h3⟩ := hF
      obtain ⟨o1, o2, o3, o4, o5⟩ := ok
      refine ⟨_, rfl, a, _, rfl, h1, rfl, _, _, rfl, _, _, rfl, _, _, rfl, _, _, rfl, _, _, rfl, _, _, rfl, rfl, ?_⟩
      refine ⟨_, rfl, (by show 1 ≤ sizeLine; decide), fun p np => ?_⟩
      have em : (n : Int) - 1 = ((n - 1 : Nat) : Int) := by omega
      refine ⟨_, rfl, _, rfl, _, rfl, _, rfl, _, _, rfl, rfl, l, sp, r, c, n - 1, ?_, (Same.upd np).seqT h3, o1, o2, o3, by omega, fun H1 t s1 nt ht => ?_⟩
      · show [V.int l, V.int sp, V.ref r, V.int ((n : Int) - 1)] = _
        rw [em]
      have hp0 := s1 _ _ (upd_same (H := H) (a := p) (o := .lst [.int f0]))
      have ntp : t ≠ p := fun e => by
        rw [e, upd_same] at nt
        cases nt
      have len := unpackedFrom_le (l := l) (s := sp) (cs := c) (n := n - 1)
      refine ⟨t, rfl, ⟨_, SqL.of ht⟩, for_it walk_list (fun i σ H' => ∃ v, σ = [some (.ref a), some (.str "steps"), some (.int n), some (.int f0), some (.int l), some (.int sp), some (.ref r), some (.ref p), v] ∧ Same H H' ∧ H' t = some (.lst ((unpackedFrom l sp c (n - 1)).map V.int)) ∧ H' p = some (.lst ((runs f0 ((unpackedFrom l sp c (n - 1)).take i)).map V.int)))
        ⟨none, rfl, (Same.upd np).trans s1, ht, hp0⟩ (fun i σ H' _ ⟨_, _, _, s5, _⟩ => SqL.of s5) ?_ ?_⟩
      · rintro i x σ H2 H3 hi ⟨v, rfl, s2, ht2, hp⟩ ⟨rfl, e⟩
        rw [List.length_map] at hi
        obtain ⟨z, hz, rfl⟩ := map_at e
        refine ⟨_, rfl, .inl ⟨rfl, _, SqL.of hp⟩, _, rfl, _, rfl, p, _, _, _, rfl, rfl, SqL.of hp, at_last (runs_ne _ _), _, rfl, _, _, rfl, rfl, p, _, _, rfl, rfl, hp, ?_, ?_⟩
        · rw [List.length_map, runs_length, List.length_take, sizeLine_eq]
          omega
        · refine ⟨_, rfl, Same.put s2 np, (upd_ne ntp).trans ht2, ?_⟩
          rw [upd_same, take_more hz, runs_snoc, List.map_append]
          rfl
      · rintro σ H2 ⟨v, rfl, s2, ht2, hp⟩
        rw [List.length_map, List.take_length] at hp
        exact ⟨_, rfl, k _ p s2 np hp⟩
    | _ => exact (show False from kd).elim
abbrev s_room : Stmt := top 44
abbrev N_room : List Str := ["form", "cells", "part"]
abbrev P_room : List Str := ["form"]
theorem sc_room : FnScope N_room P_room (defScope s_room) := ⟨rfl, rfl, rfl, by decide +kernel, rfl, by decide +kernel, by decide +kernel⟩
/-- the parts' sizes -/
inductive Wt (K : PySem.W.Frag) (H : Hp) : V → Nat → Prop where
  | str (x : Str) : Wt K H (.str x) 1
  | int (i : Int) : Wt K H (.int i) 1
  | tup {t : Addr} {xs : List V} (h : SqT K H t xs) : Wt K H (.ref t) xs.length
theorem parts {H : Hp} {a : Addr} {F : Form} (h : IsF K H a F) : ∃ ps ws, SqT K H a ps ∧ Paired (Wt K H) ps ws ∧ ws.sum = room F := by
  cases F with
  | plain vs =>
    obtain ⟨q, h1, h2⟩ := h
    exact ⟨_, _, h1, .cons (.str _) (.cons (.tup h2) .nil), by simp [room, List.length_map]⟩
  | one n v => exact ⟨_, _, h, .cons (.str _) (.cons (.int _) (.cons (.int _) .nil)), rfl⟩
  | codes n u c =>
    obtain ⟨q, r, h1, h2, h3⟩ := h
    exact ⟨_, _, h1, .cons (.str _) (.cons (.int _) (.cons (.tup h2) (.cons (.tup h3) .nil))), by simp [room, List.length_map]; omega⟩
  | near n l s c =>
    obtain ⟨r, h1, h3⟩ := h
    exact ⟨_, _, h1, .cons (.str _) (.cons (.int _) (.cons (.int _) (.cons (.int _) (.cons (.tup h3) .nil)))), by simp [room, List.length_map]; omega⟩
  | steps n f l s c =>
    obtain ⟨r, h1, h3⟩ := h
    exact ⟨_, _, h1, .cons (.str _) (.cons (.int _) (.cons (.int _) (.cons (.int _) (.cons (.int _) (.cons (.tup h3) .nil))))), by simp [room, List.length_map]; omega⟩
theorem paired_at {α β : Type} {R : α → β → Prop} {x : α} : ∀ {xs : List α} {ys : List β} {i : Nat}, Paired R xs ys → xs[i]? = some x → ∃ y, ys[i]? = some y ∧ R x y
  | _, _, _, .nil, e => by simp at e
  | _, _, 0, .cons r _, e => by
    obtain rfl := Option.some.inj e
    exact ⟨_, rfl, r⟩
  | _, _, i + 1, .cons _ t, e => paired_at (i := i) t e
theorem sum_more {l : List Nat} {i : Nat} {x : Nat} (h : l[i]? = some x) : (l.take (i + 1)).sum = (l.take i).sum + x := by
  rw [take_more h, List.sum_append]
  simp
def spRoom (K : PySem.W.Frag) : Sp := fun vs H Q _ => ∃ (a : Addr) (F : Form), vs = [.ref a] ∧ IsF K H a F ∧ Q (.int (K3.room F : Int)) H
theorem ok_room (T : Txt mg) (D : Df K mg "room" s_room P_room) : Fn P w K mg base CX0 1 "room" P_room (spRoom K) := by
  refine D.ok sc_room (fun vs H Q E h => ?_) (fun f cdv A outer s H vs Q E hr h => ?_)
  · obtain ⟨a, F, rfl, _⟩ := h
    rfl
  · obtain ⟨a, F, rfl, hF, k⟩ := h
    have nd := sc_room.nd
    refine ⟨_, (pss_cons (ps_set (i := 1) nd rfl (by first | exact Or.inl rfl | exact Or.inr rfl) pe_int)
  (pss_cons (ps_for PassesOwn.never rfl (pi_tup (pv 0)) (pg_name (i := 2) nd rfl (by first | exact Or.inl rfl | exact Or.inr rfl))
  (pss_one (ps_if (pt_val (pe_callB call_isi (by rfl) T.b_isinstance (by decide +kernel) (pa_cons (pv 2) (pa_cons (pe_bltn (v := .ty "tuple") (by rfl) T.b_tuple boot_tuple rfl) pa_nil))))
  (pss_one (ps_aug (i := 1) nd rfl (by first | exact Or.inl rfl | exact Or.inr rfl) (pe_callB call_len_seq (by rfl) T.b_len (by decide +kernel) (pa_cons (pv 2) pa_nil)) ip_add))
  (pss_one (ps_aug (i := 1) nd rfl (by first | exact Or.inl rfl | exact Or.inr rfl) pe_int ip_add)))))
  (pss_one (ps_ret (pv 1))))), ?_⟩
    obtain ⟨ps, ws, hps, pr, hw⟩ := parts hF
    have hlen : ps.length = ws.length := Paired.length pr
    refine ⟨_, rfl, a, rfl, ⟨_, hps⟩, for_it walk_tup (fun i σ H' => ∃ v, σ = [some (.ref a), some (.int ((ws.take i).sum : Int)), v] ∧ H' = H) ⟨none, rfl, rfl⟩ (fun i σ H' _ ⟨_, _, e⟩ => e ▸ hps) ?_ ?_⟩
    · rintro i x σ H2 H3 hi ⟨v, rfl, rfl⟩ ⟨rfl, e⟩
      obtain ⟨y, hy, R⟩ := paired_at pr e
      have hs := sum_more hy
      cases R with
      | str z =>
        refine ⟨_, rfl, _, .ty "tuple", .type "str", .type "tuple", false, rfl, .ty _, .base (.str _), kit_ty (by decide +kernel), _, rfl, ?_⟩
        refine ite2 (fun c => absurd c (by decide)) (fun _ => ⟨_, rfl, _, _, rfl, rfl, some (.str z), ?_, rfl⟩)
        rw [hs]
        rfl
      | int z =>
        refine ⟨_, rfl, _, .ty "tuple", .type "int", .type "tuple", false, rfl, .ty _, .base (.int _), kit_ty (by decide +kernel), _, rfl, ?_⟩
        refine ite2 (fun c => absurd c (by decide)) (fun _ => ⟨_, rfl, _, _, rfl, rfl, some (.int z), ?_, rfl⟩)
        rw [hs]
        rfl
      | @tup q _ hx =>
        refine ⟨_, rfl, _, .ty "tuple", .type "tuple", .type "tuple", true, rfl, .ty _, tyX_seqT hx, kit_ty (by decide +kernel), _, rfl, ?_⟩
        refine ite2 (fun _ => ⟨_, rfl, _, rfl, _, _, rfl, .inr hx, _, _, rfl, rfl, some (.ref q), ?_, rfl⟩) (fun c => absurd rfl c)
        rw [hs]
        rfl
    · rintro σ H' ⟨v, rfl, rfl⟩
      rw [hlen, List.take_length, hw]
      exact ⟨_, rfl, k⟩
end
end K3

set_option Elab.async false
set_option linter.all false
set_option maxRecDepth 100000
set_option maxHeartbeats 4000000
namespace K3
open PySem PySem.Spec PyProof.Rows L2
/-! ### makers and readers by their names -/
def nms : List Str := ["plain", "one", "codes", "near", "steps"]
def nmOf (i : Nat) : Str := nms.getD i Str.empty
def mk : Nat → List Int → Option Form
  | 0 => mkPlain
  | 1 => mkOne
  | 2 => mkCodes
  | 3 => mkNear
  | _ => mkSteps
def kindOf : Nat → Form → Prop
  | 0 => isPlain
  | 1 => isOne
  | 2 => isCodes
  | 3 => isNear
  | _ => isSteps
/-- the fewest cells by the first i forms -/
def lr (ns : List Int) : Nat → Nat
  | 0 => 1 + ns.length
  | i + 1 => match mk i ns with
    | some F => if room F < lr ns i then room F else lr ns i
    | none => lr ns i
theorem packed_le {b : Int} (hb : b ≤ 10000) (ns : List Int) : (packed b ns).length ≤ ns.length := pack_le b (perC_pos hb) _ _
theorem packedFrom_le {l s : Int} (hs : s ≤ 9999) (ns : List Int) : (packedFrom l s ns).length ≤ ns.length := by
  unfold packedFrom
  split
  · exact Nat.zero_le _
  · have h := packed_le (b := s + 1) (by omega) (ns.map (· - l))
    rwa [List.length_map] at h
theorem mk_ok {ns : List Int} (G : Good ns) : ∀ {i : Nat} {F : Form}, mk i ns = some F → FOk F
  | 0, F, h => by
    obtain rfl : Form.plain ns = F := Option.some.inj h
    have := G.few
    show ns.length ≤ 1000
    omega
  | 1, F, h => by
    have h : mkOne ns = some F := h
    unfold mkOne at h
    split at h
    · cases h
    · cases h
      have := G.few
      show ns.length ≤ 1000
      omega
  | 2, F, h => by
    have h : mkCodes ns = some F := h
    unfold mkCodes at h
    split at h
    · cases h
    · cases h
      have h1 := G.few
      have h2 := usort_length ns
      have h3 := packed_le (b := ((usort ns).length : Int)) (by omega) (ns.map fun v => (idx (usort ns) v : Int))
      rw [List.length_map] at h3
      refine ⟨by omega, by omega, by omega, by omega⟩
  | 3, F, h => by
    have h : mkNear ns = some F := h
    unfold mkNear at h
    split at h
    · cases h
    · rename_i c
      cases h
      have h1 := G.few
      have h2 : lmax ns - lmin ns ≤ 9999 := by omega
      have h3 := packedFrom_le (l := lmin ns) h2 ns
      exact ⟨span_nn G.ne, h2, by omega, by omega⟩
  | n + 4, F, h => by
    have h : mkSteps ns = some F := h
    unfold mkSteps at h
    split at h
    · cases h
    · rename_i c0
      split at h
      · cases h
      · rename_i c
        cases h
        have h1 := G.few
        have h2 : lmax (steps ns) - lmin (steps ns) ≤ 9999 := by omega
        have h3 := packedFrom_le (l := lmin (steps ns)) h2 (steps ns)
        have h4 := steps_length ns
        exact ⟨span_nn (steps_ne c0), h2, by omega, by omega, by omega⟩
/-- what stands at names of the module -/
structure Exc1 (K : PySem.W.Frag) (mg : Str → Option Value) (x : Str) (C : Addr) : Prop where
  g : mg x = some (.ref C)
  x : PySem.W.excIn K C [.type "ValueError", .type "Exception", .type "BaseException", .type "object"] "ValueError.__new__" = true
  k : PySem.W.keepIn K (.ref C) = true
  b : PySem.W.subIn K (.ref C) (.type "BaseException") = some true
  t : PySem.W.typeIn K (.ref C) = some (.type "type")
section
variable {X : Cx} {k i : Nat} {x : Str} {p pos : Pos} {e : Expr} {es : List Expr} {t : TA}
/-- a call of a def that a slot holds, whichever it is -/
def tCallH (P : Program) (w : World) (K : PySem.W.Frag) (mg : Str → Option Value) (base : Heap) (k i : Nat) (t : TA) : TE := fun σ H Q => ∃ f sp, σ[i]? = some (some (.ref f)) ∧ Held P w K mg base k f sp ∧ t σ H fun vs H1 => sp vs H1 Q (fun _ _ _ => False)
theorem pe_callH (hr : Room k X.A) (hN : X.N[i]? = some x) (hv : Vis X.env.scope x) (ha : PA X (e :: es) t)
    (hdb : (x == ("__debug__" : Str)) = false := by decide) (hcd : (x == ("__classdict__" : Str)) = false := by decide)
    (he : starEach (e :: es) X.env = (false, eval e X.env) :: starEach es X.env := by rfl) (hpl : (backTo pos (starEach es X.env)).any (·.1) = false := by rfl) : PE X (.Call (.Name x p) (e :: es) [] pos) (tCallH X.prog X.w X.K X.mg X.base k i t) := by
  refine ⟨fun pins s σ H Q I ⟨f, sp, hs, hh, ht⟩ => ?_⟩
  refine (pe_callA (i := i) (S := fun g => if g = f then some sp else none) (fun g sp' h => ?_) hr hN hv ha hdb hcd he hpl).run pins s σ H Q I ⟨f, sp, hs, if_pos rfl, ht⟩
  split at h
  · rename_i c
    subst c
    obtain rfl := Option.some.inj h
    exact hh
  · cases h
end
section
variable {P : Program} {w : World} {K : PySem.W.Frag} {mg : Str → Option Value} {base : Heap}
/-- the table of makers at d -/
structure Makers (P : Program) (w : World) (K : PySem.W.Frag) (mg : Str → Option Value) (base : Heap) (d : Addr) : Prop where
  g : mg "MAKERS" = some (.ref d)
  keys : KKeys K w d nms
  all : ∀ i, i < 5 → ∃ f, Held P w K mg base 5 f (spMk K (mk i)) ∧ KDct K w d (nmOf i) (.ref f)
structure Readers (P : Program) (w : World) (K : PySem.W.Frag) (mg : Str → Option Value) (base : Heap) (d : Addr) : Prop where
  g : mg "READERS" = some (.ref d)
  all : ∀ i, i < 5 → ∃ f, Held P w K mg base 5 f (spRd K (kindOf i)) ∧ KDct K w d (nmOf i) (.ref f)
abbrev s_laid : Stmt := top 42
abbrev N_laid : List Str := ["name", "values", "maker", "form"]
abbrev P_laid : List Str := ["name", "values"]
theorem sc_laid : FnScope N_laid P_laid (defScope s_laid) := ⟨rfl, rfl, rfl, by decide +kernel, rfl, by decide +kernel, by decide +kernel⟩
def spLaid (K : PySem.W.Frag) (CN : Addr) : Sp := fun vs H Q E => ∃ (i : Nat) (a : Addr) (ns : List Int), vs = [.str (nmOf i), .ref a] ∧ i < 5 ∧ SqL K H a (ns.map V.int) ∧ Good ns ∧
  (∀ F, mk i ns = some F → ∀ (H' : Hp) (p : Addr), Same H H' → IsF K H' p F → Q (.ref p) H') ∧ (mk i ns = none → ∀ H', Same H H' → E (.ref CN) none H')
theorem nm_length : ∀ {i : Nat}, i < 5 → (nmOf i).length ≤ 5
  | 0, _ => by decide
  | 1, _ => by decide
  | 2, _ => by decide
  | 3, _ => by decide
  | 4, _ => by decide
  | n + 5, h => absurd h (by omega)
theorem ok_laid {d CN : Addr} (T : Txt mg) (M : Makers P w K mg base d) (XN : Exc1 K mg "NoForm" CN) (D : Df K mg "laid" s_laid P_laid) (G_check_values : Fn P w K mg base CX0 1 "check_values" P_check_values (spChV K)) : Fn P w K mg base (L2.CX P w) 6 "laid" P_laid (spLaid K CN) := by
  refine D.okX sc_laid (fun vs H Q E h => ?_) (fun f cdv A outer s H vs Q E hr h => ?_)
  · obtain ⟨i, a, ns, rfl, _⟩ := h
    rfl
  · obtain ⟨i, a, ns, rfl, hi, hS, G, kS, kE⟩ := h
    have nd := sc_laid.nd
    have hM := M.g
    obtain ⟨es, n, DM, _⟩ := M.keys.ex
    refine ⟨_, (pss_cons (ps_if (pt_cmpR (op_notIn_kd DM) (pv 0) (pe_glob (v := .ref d) (by rfl) hM rfl) (by rfl))
  (pss_one ps_never)
  pss_nil)
  (pss_cons (ps_expr (pe_c G_check_values (hr.mono (by decide)) pass0 (pa_cons (pv 1) pa_nil)))
  (pss_cons (ps_set (i := 2) nd rfl (by first | exact Or.inl rfl | exact Or.inr rfl) (pe_ix ix_kdict (pe_glob (v := .ref d) (by rfl) hM rfl) (pv 0) (fun _ _ => rfl)))
  (pss_cons (ps_set (i := 3) nd rfl (by first | exact Or.inl rfl | exact Or.inr rfl) (pe_callH (k := 5) (i := 2) (hr.mono (by decide)) rfl (.inl rfl) (pa_cons (pv 1) pa_nil)))
  (pss_cons (ps_if (pt_cmpR op_isN (pv 3) pe_non (nomark _))
  (pss_one (ps_raise rfl (takes_of rfl rfl rfl rfl) (SkE.pmk_own1 PySem.F.excBase_ValueError XN.x XN.g XN.k (raises_own XN.b XN.t) rfl (pe_joined (.cons pe_str (.cons (pe_fmt (pv 0)) .nil))))))
  pss_nil)
  (pss_one (ps_ret (pv 3)))))))), ?_⟩
    obtain ⟨fm, hh, hkd⟩ := M.all i hi
    obtain ⟨_, _, u, _, _, hns, _⟩ := id hkd
    refine ⟨_, rfl, nmOf i, _, rfl, rfl, hns, _, rfl, ?_⟩
    refine ite2 (fun c => Bool.noConfusion (show false = true from c)) (fun _ => ?_)
    refine ⟨_, rfl, a, ns, rfl, hS, G, fun H1 s1 => ?_⟩
    refine ⟨_, rfl, d, nmOf i, _, rfl, rfl, hkd, ?_⟩
    refine ⟨fm, _, rfl, hh, _, rfl, a, ns, rfl, s1.seq hS, G, fun hn H2 s2 => ?_, fun F hF H2 p s2 hp => ?_⟩
    · refine ⟨_, rfl, rfl, _, rfl, ?_⟩
      refine ite2 (fun _ => ?_) (fun c => absurd rfl c)
      have hl := nm_length hi
      refine ⟨_, rfl, (by decide), _, rfl, .inl ⟨_, rfl, Nat.le_trans hl (by decide), _, rfl, ?_, kE hn H2 (s1.trans s2)⟩⟩
      rw [PySem.Str.length_append]
      have h9 : (Str.empty ++ ("these values have no form " : Str)).length ≤ 100 := by decide
      rw [sizeLine_eq]
      omega
    · refine ⟨_, rfl, rfl, _, rfl, ?_⟩
      refine ite2 (fun c => nomatch (of_decide_eq_true c)) (fun _ => ?_)
      exact ⟨_, rfl, kS F hF H2 p (s1.trans s2) hp⟩
abbrev s_least_form : Stmt := top 43
abbrev N_least_form : List Str := ["values", "least", "name", "maker", "form"]
abbrev P_least_form : List Str := ["values"]
theorem sc_least_form : FnScope N_least_form P_least_form (defScope s_least_form) := ⟨rfl, rfl, rfl, by decide +kernel, rfl, by decide +kernel, by decide +kernel⟩
def spLeast (K : PySem.W.Frag) : Sp := fun vs H Q _ => ∃ (a : Addr) (ns : List Int), vs = [.ref a] ∧ SqL K H a (ns.map V.int) ∧ Good ns ∧
  ∀ (H' : Hp) (p : Addr) (F : Form), Same H H' → IsF K H' p F → K3.room F = lr ns 5 → Q (.ref p) H'
theorem ok_least_form {d : Addr} (T : Txt mg) (M : Makers P w K mg base d) (D : Df K mg "least_form" s_least_form P_least_form) (G_check_values : Fn P w K mg base CX0 1 "check_values" P_check_values (spChV K))
    (G_make_plain : Fn P w K mg base CX0 1 "make_plain" P_make_plain (spMk K mkPlain)) (G_room : Fn P w K mg base CX0 1 "room" P_room (spRoom K)) : Fn P w K mg base CX0 6 "least_form" P_least_form (spLeast K) := by
  refine D.ok sc_least_form (fun vs H Q E h => ?_) (fun f cdv A outer s H vs Q E hr h => ?_)
  · obtain ⟨a, ns, rfl, _⟩ := h
    rfl
  · obtain ⟨a, ns, rfl, hS, G, k⟩ := h
    have nd := sc_least_form.nd
    have hM := M.g
    refine ⟨_, (pss_cons (ps_expr (pe_c G_check_values (hr.mono (by decide)) pass0 (pa_cons (pv 0) pa_nil)))
  (pss_cons (ps_set (i := 1) nd rfl (by first | exact Or.inl rfl | exact Or.inr rfl) (pe_c G_make_plain (hr.mono (by decide)) pass0 (pa_cons (pv 0) pa_nil)))
  (pss_cons (ps_for PassesOwn.never rfl (pi_ks (pe_glob (v := .ref d) (by rfl) hM rfl)) (pg_name (i := 2) nd rfl (by first | exact Or.inl rfl | exact Or.inr rfl))
  (pss_cons (ps_set (i := 3) nd rfl (by first | exact Or.inl rfl | exact Or.inr rfl) (pe_ix ix_kdict (pe_glob (v := .ref d) (by rfl) hM rfl) (pv 2) (fun _ _ => rfl)))
  (pss_cons (ps_set (i := 4) nd rfl (by first | exact Or.inl rfl | exact Or.inr rfl) (pe_callH (k := 5) (i := 3) (hr.mono (by decide)) rfl (.inl rfl) (pa_cons (pv 0) pa_nil)))
  (pss_one (ps_if (PW.pt (pw_and (pt_cmpR op_notN (pv 4) pe_non (nomark _)) (pw_and1 (pt_cmpR op_lt (pe_c G_room (hr.mono (by decide)) pass0 (pa_cons (pv 4) pa_nil)) (pe_c G_room (hr.mono (by decide)) pass0 (pa_cons (pv 1) pa_nil)) (nomark _)))))
  (pss_one (ps_set (i := 1) nd rfl (by first | exact Or.inl rfl | exact Or.inr rfl) (pv 4)))
  pss_nil)))))
  (pss_one (ps_ret (pv 1)))))), ?_⟩
    refine ⟨_, rfl, a, ns, rfl, hS, G, fun H1 s1 => ?_⟩
    refine ⟨_, rfl, a, ns, rfl, s1.seq hS, G, (fun z => nomatch z), fun F hF H2 p s2 hp => ?_⟩
    obtain rfl : Form.plain ns = F := Option.some.inj hF
    refine ⟨d, nms, rfl, M.keys, for_it walk_ks (fun i σ H' => ∃ (q : Addr) (F : Form) (v2 v3 v4 : Option V), σ = [some (.ref a), some (.ref q), v2, v3, v4] ∧ Same H H' ∧ IsF K H' q F ∧ K3.room F = lr ns i) ⟨p, .plain ns, none, none, none, rfl, s1.trans s2, hp, rfl⟩ (fun _ _ _ _ _ => True.intro) ?_ ?_⟩
    · rintro i x σ H3 H4 hi ⟨q, F, v2, v3, v4, rfl, s3, hq, hl⟩ ⟨rfl, z, hz, rfl⟩
      have hi : i < 5 := hi
      obtain rfl : nmOf i = z := by
        unfold nmOf
        rw [List.getD_eq_getElem?_getD, hz]
        rfl
      obtain ⟨fm, hh, hkd⟩ := M.all i hi
      refine ⟨_, rfl, d, nmOf i, _, rfl, rfl, hkd, ?_⟩
      refine ⟨fm, _, rfl, hh, _, rfl, a, ns, rfl, s3.seq hS, G, fun hn H5 s5 => ?_, fun F5 hF5 H5 p5 s5 hp5 => ?_⟩
      · refine ⟨_, rfl, rfl, _, rfl, ?_⟩
        refine ite2 (fun c => absurd c (by decide)) (fun _ => ?_)
        refine ite2 (fun c => absurd c (by decide)) (fun _ => ?_)
        refine ⟨q, F, _, _, _, rfl, s3.trans s5, hq.same s5, ?_⟩
        show K3.room F = (match mk i ns with | some F => if K3.room F < lr ns i then K3.room F else lr ns i | none => lr ns i)
        rw [hn]
        exact hl
      · refine ⟨_, rfl, rfl, _, rfl, ?_⟩
        refine ite2 (fun _ => ?_) (fun c => absurd rfl c)
        refine ⟨_, rfl, p5, F5, rfl, hp5, _, rfl, q, F, rfl, hq.same s5, _, _, rfl, rfl, _, rfl, ?_⟩
        have el : lr ns (i + 1) = if K3.room F5 < lr ns i then K3.room F5 else lr ns i := by
          show (match mk i ns with | some F => if K3.room F < lr ns i then K3.room F else lr ns i | none => lr ns i) = _
          rw [hF5]
        refine ite2 (fun c => ?_) (fun c => ?_)
        · have c' : (K3.room F5 : Int) < (K3.room F : Int) := of_decide_eq_true c
          refine ⟨_, rfl, p5, F5, _, _, _, rfl, s3.trans s5, hp5, ?_⟩
          rw [el, if_pos (by omega)]
        · have c' : ¬ (K3.room F5 : Int) < (K3.room F : Int) := fun z => c (decide_eq_true z)
          refine ⟨q, F, _, _, _, rfl, s3.trans s5, hq.same s5, ?_⟩
          rw [el, if_neg (by omega)]
          exact hl
    · rintro σ H' ⟨q, F, v2, v3, v4, rfl, s3, hq, hl⟩
      exact ⟨_, rfl, k _ q F s3 hq hl⟩
abbrev s_values_of : Stmt := top 45
abbrev N_values_of : List Str := ["form", "reader"]
abbrev P_values_of : List Str := ["form"]
theorem sc_values_of : FnScope N_values_of P_values_of (defScope s_values_of) := ⟨rfl, rfl, rfl, by decide +kernel, rfl, by decide +kernel, by decide +kernel⟩
def spVof (K : PySem.W.Frag) : Sp := fun vs H Q _ => ∃ (a : Addr) (F : Form), vs = [.ref a] ∧ IsF K H a F ∧ FOk F ∧
  ∀ (H' : Hp) (p : Addr), Same H H' → H p = none → H' p = some (.lst ((readF F).map V.int)) → Q (.ref p) H'
theorem named {H : Hp} {a : Addr} {F : Form} (h : IsF K H a F) : ∃ i ps, i < 5 ∧ kindOf i F ∧ SqT K H a (.str (nmOf i) :: ps) := by
  cases F with
  | plain vs => obtain ⟨q, h1, _⟩ := h; exact ⟨0, _, by decide, True.intro, h1⟩
  | one n v => exact ⟨1, _, by decide, True.intro, h⟩
  | codes n u c => obtain ⟨q, r, h1, _⟩ := h; exact ⟨2, _, by decide, True.intro, h1⟩
  | near n l s c => obtain ⟨r, h1, _⟩ := h; exact ⟨3, _, by decide, True.intro, h1⟩
  | steps n f l s c => obtain ⟨r, h1, _⟩ := h; exact ⟨4, _, by decide, True.intro, h1⟩
theorem ok_values_of {d : Addr} (T : Txt mg) (M : Readers P w K mg base d) (D : Df K mg "values_of" s_values_of P_values_of) : Fn P w K mg base CX0 6 "values_of" P_values_of (spVof K) := by
  refine D.ok sc_values_of (fun vs H Q E h => ?_) (fun f cdv A outer s H vs Q E hr h => ?_)
  · obtain ⟨a, F, rfl, _⟩ := h
    rfl
  · obtain ⟨a, F, rfl, hF, ok, k⟩ := h
    have nd := sc_values_of.nd
    have hM := M.g
    refine ⟨_, (pss_cons (ps_set (i := 1) nd rfl (by first | exact Or.inl rfl | exact Or.inr rfl) (pe_ix ix_kdict (pe_glob (v := .ref d) (by rfl) hM rfl) (pe_ix ix_tup (pv 0) pe_int (fun _ _ => rfl)) (fun _ _ => rfl)))
  (pss_one (ps_ret (pe_callH (k := 5) (i := 1) (hr.mono (by decide)) rfl (.inl rfl) (pa_cons (pv 0) pa_nil))))), ?_⟩
    obtain ⟨i, ps, hi, hk, hps⟩ := named hF
    obtain ⟨fm, hh, hkd⟩ := M.all i hi
    refine ⟨_, rfl, a, _, 0, _, rfl, rfl, hps, at0, d, nmOf i, _, rfl, rfl, hkd, ?_⟩
    exact ⟨fm, _, rfl, hh, _, rfl, a, F, rfl, hk, hF, ok, k⟩
abbrev s_value_at : Stmt := top 46
abbrev N_value_at : List Str := ["form", "place", "values"]
abbrev P_value_at : List Str := ["form", "place"]
theorem sc_value_at : FnScope N_value_at P_value_at (defScope s_value_at) := ⟨rfl, rfl, rfl, by decide +kernel, rfl, by decide +kernel, by decide +kernel⟩
def spVat (K : PySem.W.Frag) : Sp := fun vs H Q _ => ∃ (a : Addr) (F : Form) (j : Nat) (v : Int), vs = [.ref a, .int j] ∧ IsF K H a F ∧ FOk F ∧ (readF F)[j]? = some v ∧ ∀ H', Same H H' → Q (.int v) H'
theorem ok_value_at (T : Txt mg) (D : Df K mg "value_at" s_value_at P_value_at) (G_values_of : Fn P w K mg base CX0 6 "values_of" P_values_of (spVof K)) : Fn P w K mg base CX0 7 "value_at" P_value_at (spVat K) := by
  refine D.ok sc_value_at (fun vs H Q E h => ?_) (fun f cdv A outer s H vs Q E hr h => ?_)
  · obtain ⟨a, F, j, v, rfl, _⟩ := h
    rfl
  · obtain ⟨a, F, j, v, rfl, hF, ok, hv, k⟩ := h
    have nd := sc_value_at.nd
    refine ⟨_, (pss_cons (ps_set (i := 2) nd rfl (by first | exact Or.inl rfl | exact Or.inr rfl) (pe_c G_values_of (hr.mono (by decide)) pass0 (pa_cons (pv 0) pa_nil)))
  (pss_cons (ps_if (PW.pt (pw_or (pt_cmpR op_lt (pv 1) pe_int (nomark _)) (pw_or1 (pt_cmpR op_ge (pv 1) (pe_callB call_len_seq (by rfl) T.b_len (by decide +kernel) (pa_cons (pv 2) pa_nil)) (nomark _)))))
  (pss_one ps_never)
  pss_nil)
  (pss_one (ps_ret (pe_ix ix_list (pv 2) (pv 1) (fun _ _ => rfl)))))), ?_⟩
    have hj := (List.getElem?_eq_some_iff.mp hv).1
    refine ⟨_, rfl, a, F, rfl, hF, ok, fun H1 p s1 np hp => ?_⟩
    refine ⟨_, rfl, _, _, rfl, rfl, _, rfl, ?_⟩
    refine ite2 (fun c => absurd (of_decide_eq_true c) (by omega)) (fun _ => ?_)
    refine ⟨_, rfl, _, rfl, p, _, rfl, .inl (SqL.of hp), _, _, rfl, rfl, _, rfl, ?_⟩
    rw [List.length_map]
    refine ite2 (fun c => absurd (of_decide_eq_true c) (by omega)) (fun _ => ?_)
    exact ⟨_, rfl, _, rfl, p, _, _, _, rfl, rfl, SqL.of hp, atI_nat (by rw [List.getElem?_map, hv]; rfl), k _ s1⟩
end
end K3

set_option Elab.async false
set_option linter.all false
set_option maxRecDepth 100000
set_option maxHeartbeats 4000000
namespace K3
open PySem PySem.Spec PyProof.Rows L2
theorem pe_cS {X : Cx} {CX : CXT} {k : Nat} {ps : List Str} {sp : Sp} {E : L2.St → XK} {x : Str} {p pos : Pos} {e : Expr} {es : List Expr} {t : TA} (F : Fn X.prog X.w X.K X.mg X.base CX k x ps sp) (hr : Room k X.A) (hx : ∀ σ, PassesAt CX X σ (E σ)) (ha : PA X (e :: es) t) (hg : Gl X x := by rfl) (hdb : (x == ("__debug__" : Str)) = false := by decide)
    (he : starEach (e :: es) X.env = (false, eval e X.env) :: starEach es X.env := by rfl) (hpl : (backTo pos (starEach es X.env)).any (·.1) = false := by rfl) : PE X (.Call (.Name x p) (e :: es) [] pos) (tCallS sp E t) := by
  obtain ⟨f, fd, G, hm, hk, hb⟩ := F.ex
  exact pe_callS G hr hg hm hk hb hx ha hdb he hpl
/-! ### what is kept of tuples -/
/-- all that can't change is as it was -/
def SameT (H H' : Hp) : Prop := ∀ b o, H b = some o → ((∃ xs, o = .tup xs) ∨ ∃ ob xs, o = .frz ob (.tup xs)) → H' b = some o
theorem SameT.of {H H' : Hp} (s : Same H H') : SameT H H' := fun b o e _ => s b o e
theorem SameT.refl (H : Hp) : SameT H H := fun _ _ e _ => e
theorem SameT.trans {H H1 H2 : Hp} (a : SameT H H1) (b : SameT H1 H2) : SameT H H2 := fun c o e h => b c o (a c o e h) h
theorem SameT.lst {H : Hp} {p : Addr} {xs ys : List V} (e : H p = some (.lst xs)) : SameT H (upd H p (.lst ys)) := fun b o h k => by
  rw [upd_ne (ne_of h e (fun z => by rcases k with ⟨_, k⟩ | ⟨_, _, k⟩ <;> rw [k] at z <;> cases z))]
  exact h
theorem SameT.dct {H : Hp} {p : Addr} {kvs : List (Key × V)} {o : HO} (e : H p = some (.dK kvs)) : SameT H (upd H p o) := fun b u h k => by
  rw [upd_ne (ne_of h e (fun z => by rcases k with ⟨_, k⟩ | ⟨_, _, k⟩ <;> rw [k] at z <;> cases z))]
  exact h
theorem SameT.upd {H : Hp} {p : Addr} {o0 o : HO} (e : H p = some o0) (n1 : ∀ xs, HO.tup xs ≠ o0) (n2 : ∀ ob xs, HO.frz ob (.tup xs) ≠ o0) : SameT H (L2.upd H p o) := fun b u h k => by
  rw [upd_ne (ne_of h e (fun z => by rcases k with ⟨_, k⟩ | ⟨_, _, k⟩ <;> rw [k] at z; exact n1 _ z; exact n2 _ _ z))]
  exact h
theorem SameT.out {b l : Addr} {H H' : Hp} (B : Bx H b l) (O : Out b l H H') : SameT H H' := fun c o h k => by
  obtain ⟨st, ns, h1, h2, _⟩ := B
  exact O c o (ne_of h h1 (fun z => by rcases k with ⟨_, k⟩ | ⟨_, _, k⟩ <;> rw [k] at z <;> cases z)) (ne_of h h2 (fun z => by rcases k with ⟨_, k⟩ | ⟨_, _, k⟩ <;> rw [k] at z <;> cases z)) h
theorem SameT.seqT {K : PySem.W.Frag} {H H' : Hp} {a : Addr} {xs : List V} (s : SameT H H') (h : SqT K H a xs) : SqT K H' a xs := by
  rcases h with (h | ⟨o, h⟩) | h
  · exact .inl (.inl (s _ _ h (.inl ⟨_, rfl⟩)))
  · exact .inl (.inr ⟨o, s _ _ h (.inr ⟨_, _, rfl⟩)⟩)
  · exact .inr h
theorem IsF.keep {K : PySem.W.Frag} {H H' : Hp} {a : Addr} {F : Form} (h : IsF K H a F) (s : SameT H H') : IsF K H' a F := by
  cases F with
  | plain vs => obtain ⟨q, h1, h2⟩ := h; exact ⟨q, s.seqT h1, s.seqT h2⟩
  | one n v => exact s.seqT (show SqT K H a _ from h)
  | codes n u c => obtain ⟨q, r, h1, h2, h3⟩ := h; exact ⟨q, r, s.seqT h1, s.seqT h2, s.seqT h3⟩
  | near n l sp c => obtain ⟨r, h1, h2⟩ := h; exact ⟨r, s.seqT h1, s.seqT h2⟩
  | steps n f l sp c => obtain ⟨r, h1, h2⟩ := h; exact ⟨r, s.seqT h1, s.seqT h2⟩
/-! ### the forms of values, by their names -/
def made (ns : List Int) : Nat → List (Nat × Form)
  | 0 => []
  | i + 1 => match mk i ns with
    | some F => made ns i ++ [(i, F)]
    | none => made ns i
theorem made_in {ns : List Int} : ∀ {i j : Nat} {F : Form}, (j, F) ∈ made ns i → j < i ∧ mk j ns = some F
  | 0, _, _, h => nomatch h
  | i + 1, j, F, h => by
    have h : (j, F) ∈ (match mk i ns with | some F => made ns i ++ [(i, F)] | none => made ns i) := h
    split at h
    · rename_i F' e
      rcases List.mem_append.mp h with z | z
      · obtain ⟨a, b⟩ := made_in z
        exact ⟨by omega, b⟩
      · obtain ⟨rfl, rfl⟩ := Prod.mk.inj (List.mem_singleton.mp z)
        exact ⟨by omega, e⟩
    · obtain ⟨a, b⟩ := made_in h
      exact ⟨by omega, b⟩
theorem in_made {ns : List Int} : ∀ {i j : Nat} {F : Form}, j < i → mk j ns = some F → (j, F) ∈ made ns i
  | 0, _, _, h, _ => absurd h (by omega)
  | i + 1, j, F, h, e => by
    show (j, F) ∈ (match mk i ns with | some F => made ns i ++ [(i, F)] | none => made ns i)
    by_cases c : j = i
    · subst c
      rw [e]
      exact List.mem_append_right _ (List.mem_singleton.mpr rfl)
    · have z := in_made (i := i) (by omega) e
      split
      · exact List.mem_append_left _ z
      · exact z
theorem made_length {ns : List Int} : ∀ i, (made ns i).length ≤ i
  | 0 => Nat.le_refl 0
  | i + 1 => by
    have ih := made_length (ns := ns) i
    show (match mk i ns with | some F => made ns i ++ [(i, F)] | none => made ns i).length ≤ i + 1
    split
    · rw [List.length_append, List.length_singleton]; omega
    · omega
/-- an entry of the dict is the form -/
def FR (K : PySem.W.Frag) (H : Hp) (kv : Key × V) (jF : Nat × Form) : Prop := kv.1 = .inr (nmOf jF.1) ∧ ∃ p, kv.2 = .ref p ∧ IsF K H p jF.2
theorem nm_inj : ∀ i, i < 5 → ∀ j, j < 5 → nmOf i = nmOf j → i = j := by decide +kernel
theorem fr_keep {K : PySem.W.Frag} {H H' : Hp} {kvs : List (Key × V)} {l : List (Nat × Form)} (h : Paired (FR K H) kvs l) (s : SameT H H') : Paired (FR K H') kvs l := Paired.mapP h fun _ _ ⟨a, p, b, c⟩ => ⟨a, p, b, c.keep s⟩
theorem val_none {K : PySem.W.Frag} {H : Hp} {j : Nat} (hj : j < 5) : ∀ {kvs : List (Key × V)} {l : List (Nat × Form)}, Paired (FR K H) kvs l → (∀ q ∈ l, q.1 < 5 ∧ q.1 ≠ j) → valV kvs (.inr (nmOf j)) = none
  | _, _, .nil, _ => rfl
  | _, _, .cons (a := kv) (b := q) r t, h => by
    obtain ⟨h1, h2⟩ := h q (List.mem_cons_self ..)
    rw [valV_neg (fun e => h2 (nm_inj _ h1 _ hj (Sum.inr.inj (r.1.symm.trans e))))]
    exact val_none hj t fun q hq => h q (List.mem_cons_of_mem _ hq)
theorem val_some {K : PySem.W.Frag} {H : Hp} {j : Nat} {F : Form} (hj : j < 5) : ∀ {kvs : List (Key × V)} {l : List (Nat × Form)}, Paired (FR K H) kvs l → (∀ q ∈ l, q.1 < 5) → (∀ G, (j, G) ∈ l → G = F) → (j, F) ∈ l → ∃ p, valV kvs (.inr (nmOf j)) = some (.ref p) ∧ IsF K H p F
  | _, _, .nil, _, _, h => nomatch h
  | _, _, .cons (a := kv) (b := q) r t, h, u, m => by
    by_cases c : q.1 = j
    · obtain ⟨r1, p, r2, r3⟩ := r
      rw [valV_pos (r1.trans (by rw [c])), r2]
      have e : q.2 = F := u q.2 (by rw [← c]; exact List.mem_cons_self ..)
      rw [e] at r3
      exact ⟨p, rfl, r3⟩
    · rw [valV_neg (fun e => c (nm_inj _ (h q (List.mem_cons_self ..)) _ hj (Sum.inr.inj (r.1.symm.trans e))))]
      refine val_some hj t (fun q hq => h q (List.mem_cons_of_mem _ hq)) (fun G hG => u G (List.mem_cons_of_mem _ hG)) ?_
      rcases List.mem_cons.mp m with z | z
      · exact absurd (by rw [← z]) c
      · exact z
theorem paired_snoc {α β : Type} {R : α → β → Prop} {x : α} {y : β} : ∀ {xs : List α} {ys : List β}, Paired R xs ys → R x y → Paired R (xs ++ [x]) (ys ++ [y])
  | _, _, .nil, r => .cons r .nil
  | _, _, .cons h t, r => .cons h (paired_snoc t r)
section
variable {P : Program} {w : World} {K : PySem.W.Frag} {mg : Str → Option Value} {base : Heap}
/-- at d the forms of values -/
structure Fms (K : PySem.W.Frag) (H : Hp) (ns : List Int) (kvs : List (Key × V)) : Prop where
  pr : Paired (FR K H) kvs (made ns 5)
theorem Fms.keep {H H' : Hp} {ns : List Int} {kvs : List (Key × V)} (h : Fms K H ns kvs) (s : SameT H H') : Fms K H' ns kvs := ⟨fr_keep h.pr s⟩
theorem Fms.some_ {H : Hp} {ns : List Int} {kvs : List (Key × V)} (h : Fms K H ns kvs) {j : Nat} {F : Form} (hj : j < 5) (e : K3.mk j ns = some F) : ∃ p, valV kvs (.inr (nmOf j)) = some (.ref p) ∧ IsF K H p F :=
  val_some hj h.pr (fun q hq => (made_in (j := q.1) (F := q.2) hq).1) (fun G hG => Option.some.inj ((made_in hG).2.symm.trans e)) (in_made hj e)
theorem Fms.none_ {H : Hp} {ns : List Int} {kvs : List (Key × V)} (h : Fms K H ns kvs) {j : Nat} (hj : j < 5) (e : K3.mk j ns = none) : valV kvs (.inr (nmOf j)) = none :=
  val_none hj h.pr fun q hq => ⟨(made_in (j := q.1) (F := q.2) hq).1, fun c => by
    have z := (made_in (j := q.1) (F := q.2) hq).2
    rw [c, e] at z
    cases z⟩
end
end K3

set_option linter.all false
/-! K3L: what the law compares, in plain Lean -/
namespace K3
theorem lr_le {ns : List Int} : ∀ {i j : Nat} {F : Form}, j < i → mk j ns = some F → lr ns i ≤ room F
  | 0, _, _, h, _ => absurd h (by omega)
  | i + 1, j, F, h, e => by
    show (match mk i ns with | some F => if room F < lr ns i then room F else lr ns i | none => lr ns i) ≤ room F
    by_cases c : j = i
    · subst c
      rw [e]
      show (if room F < lr ns j then room F else lr ns j) ≤ room F
      split <;> omega
    · have ih := lr_le (i := i) (j := j) (by omega) e
      split
      · split <;> omega
      · exact ih
theorem lr_mem {ns : List Int} : ∀ i, ∃ j F, j < i + 1 ∧ mk j ns = some F ∧ room F = lr ns (i + 1)
  | 0 => by
    refine ⟨0, .plain ns, by omega, rfl, ?_⟩
    show 1 + ns.length = (if 1 + ns.length < 1 + ns.length then 1 + ns.length else 1 + ns.length)
    split <;> rfl
  | i + 1 => by
    obtain ⟨j, F, h1, h2, h3⟩ := lr_mem (ns := ns) i
    cases e : mk (i + 1) ns with
    | none =>
      refine ⟨j, F, by omega, h2, ?_⟩
      show _ = (match mk (i + 1) ns with | some F => if room F < lr ns (i + 1) then room F else lr ns (i + 1) | none => lr ns (i + 1))
      rw [e]
      exact h3
    | some G =>
      have eq : lr ns (i + 1 + 1) = if room G < lr ns (i + 1) then room G else lr ns (i + 1) := by
        show (match mk (i + 1) ns with | some F => if room F < lr ns (i + 1) then room F else lr ns (i + 1) | none => lr ns (i + 1)) = _
        rw [e]
      by_cases c : room G < lr ns (i + 1)
      · exact ⟨i + 1, G, by omega, e, by rw [eq, if_pos c]⟩
      · exact ⟨j, F, by omega, h2, by rw [eq, if_neg c]; exact h3⟩
/-- the least of the rooms is that of the least form -/
theorem least_room {ns : List Int} {m : Int} (h1 : m ∈ (made ns 5).map fun q => (room q.2 : Int)) (h2 : ∀ y ∈ (made ns 5).map fun q => (room q.2 : Int), m ≤ y) : m = (lr ns 5 : Int) := by
  obtain ⟨j, F, j1, j2, j3⟩ := lr_mem (ns := ns) 4
  have a := h2 (room F : Int) (List.mem_map.mpr ⟨(j, F), in_made j1 j2, rfl⟩)
  obtain ⟨⟨k, G⟩, hk, rfl⟩ := List.mem_map.mp h1
  obtain ⟨k1, k2⟩ := made_in hk
  have b := lr_le k1 k2
  show (room G : Int) = (lr ns 5 : Int)
  have a : (room G : Int) ≤ (room F : Int) := a
  have j3 : room F = lr ns 5 := j3
  omega
/-- values of the same length, as far apart, as many unlike ones -/
structure Sim (vs ws : List Int) : Prop where
  len : ws.length = vs.length
  span : lmax ws - lmin ws = lmax vs - lmin vs
  unl : (usort ws).length = (usort vs).length
theorem packed_len {b : Int} {vs ws : List Int} (h : ws.length = vs.length) : (packed b ws).length = (packed b vs).length := by
  unfold packed
  rw [h]
  exact pack_length b b _ _ ws vs h
theorem sim_room {vs ws : List Int} (s : Sim vs ws) : ∀ {i : Nat}, i < 4 → (mk i ws).map room = (mk i vs).map room
  | 0, _ => by
    show some (1 + ws.length) = some (1 + vs.length)
    rw [s.len]
  | 1, _ => by
    show (mkOne ws).map room = (mkOne vs).map room
    have h := s.span
    unfold mkOne
    by_cases c : lmin vs < lmax vs
    · rw [if_pos c, if_pos (by omega)]
    · rw [if_neg c, if_neg (by omega)]
      rfl
  | 2, _ => by
    show (mkCodes ws).map room = (mkCodes vs).map room
    have h := s.unl
    unfold mkCodes
    by_cases c : (usort vs).length < 2
    · rw [if_pos c, if_pos (by omega)]
    · rw [if_neg c, if_neg (by omega)]
      show some (2 + (usort ws).length + (packed ((usort ws).length : Int) (ws.map fun v => (idx (usort ws) v : Int))).length) = some (2 + (usort vs).length + (packed ((usort vs).length : Int) (vs.map fun v => (idx (usort vs) v : Int))).length)
      rw [h, packed_len (b := ((usort vs).length : Int)) (vs := vs.map fun v => (idx (usort vs) v : Int)) (ws := ws.map fun v => (idx (usort ws) v : Int)) (by rw [List.length_map, List.length_map, s.len])]
  | 3, _ => by
    show (mkNear ws).map room = (mkNear vs).map room
    have h := s.span
    unfold mkNear
    rw [h]
    by_cases c : lmax vs - lmin vs < 1 ∨ 9999 < lmax vs - lmin vs
    · rw [if_pos c, if_pos c]
    · rw [if_neg c, if_neg c]
      show some (4 + (packedFrom (lmin ws) (lmax vs - lmin vs) ws).length) = some (4 + (packedFrom (lmin vs) (lmax vs - lmin vs) vs).length)
      unfold packedFrom
      split
      · rfl
      · rw [packed_len (vs := vs.map (· - lmin vs)) (ws := ws.map (· - lmin ws)) (by rw [List.length_map, List.length_map, s.len])]
  | n + 4, h => absurd h (by omega)
theorem sim_rev {vs : List Int} (h : vs ≠ []) : Sim vs vs.reverse := by
  obtain ⟨a, b⟩ := lmin_ok h
  obtain ⟨c, d⟩ := lmax_ok h
  have e1 := lmin_eq (ns := vs.reverse) (List.mem_reverse.mpr a) fun y hy => b y (List.mem_reverse.mp hy)
  have e2 := lmax_eq (ns := vs.reverse) (List.mem_reverse.mpr c) fun y hy => d y (List.mem_reverse.mp hy)
  have e3 := usort_eq (ns := vs.reverse) (usort_rises vs) fun k => (mem_usort k vs).trans List.mem_reverse.symm
  exact ⟨List.length_reverse, by rw [← e1, ← e2], by rw [← e3]⟩
theorem sim_shift {vs : List Int} (h : vs ≠ []) (c : Int) : Sim vs (vs.map (· + c)) := by
  obtain ⟨a, b⟩ := lmin_ok h
  obtain ⟨a2, b2⟩ := lmax_ok h
  have e1 := lmin_eq (ns := vs.map (· + c)) (List.mem_map.mpr ⟨_, a, rfl⟩) fun y hy => by
    obtain ⟨z, hz, rfl⟩ := List.mem_map.mp hy
    have := b z hz
    omega
  have e2 := lmax_eq (ns := vs.map (· + c)) (List.mem_map.mpr ⟨_, a2, rfl⟩) fun y hy => by
    obtain ⟨z, hz, rfl⟩ := List.mem_map.mp hy
    have := b2 z hz
    omega
  have e3 := usort_eq (ns := vs.map (· + c)) (u := (usort vs).map (· + c)) (List.pairwise_map.mpr ((usort_rises vs).imp fun {x y} hxy => by omega)) fun k => by
    constructor
    · intro hk
      obtain ⟨z, hz, rfl⟩ := List.mem_map.mp hk
      exact List.mem_map.mpr ⟨z, (mem_usort z vs).mp hz, rfl⟩
    · intro hk
      obtain ⟨z, hz, rfl⟩ := List.mem_map.mp hk
      exact List.mem_map.mpr ⟨z, (mem_usort z vs).mpr hz, rfl⟩
  refine ⟨List.length_map _, ?_, ?_⟩
  · rw [← e1, ← e2]
    omega
  · rw [← e3, List.length_map]
/-- one value alone: the form 'one' -/
theorem one_iff {vs ks : List Int} (h : vs ≠ []) (nd : ks.Nodup) (m : ∀ k, k ∈ ks ↔ k ∈ vs) : ks.length = 1 ↔ ¬ lmin vs < lmax vs := by
  obtain ⟨a, b⟩ := lmin_ok h
  obtain ⟨c, d⟩ := lmax_ok h
  constructor
  · intro e lt
    obtain ⟨k, rfl⟩ : ∃ k, ks = [k] := List.length_eq_one_iff.mp e
    have h1 := List.mem_singleton.mp ((m _).mpr a)
    have h2 := List.mem_singleton.mp ((m _).mpr c)
    omega
  · intro n
    cases ks with
    | nil => exact absurd ((m _).mpr a) (by simp)
    | cons x r =>
      cases r with
      | nil => rfl
      | cons y q =>
        have hx := (m x).mp (List.mem_cons_self ..)
        have hy := (m y).mp (List.mem_cons_of_mem _ (List.mem_cons_self ..))
        have ne : x ≠ y := fun e => (List.nodup_cons.mp nd).1 (by rw [e]; exact List.mem_cons_self ..)
        have := b x hx
        have := b y hy
        have := d x hx
        have := d y hy
        omega
theorem mk_read {ns : List Int} (hv : ns ≠ []) (hl : ns.length ≤ 32) : ∀ {i : Nat} {F : Form}, mk i ns = some F → readF F = ns
  | 0, F, h => by
    obtain rfl : Form.plain ns = F := Option.some.inj h
    rfl
  | 1, F, h => read_one hv h
  | 2, F, h => read_codes hl h
  | 3, F, h => read_near hv h
  | n + 4, F, h => read_steps h
end K3

set_option linter.all false
/-! K5M: the cells of all cuts, in plain Lean -/
namespace K3
/-- a cut of values has so many cells -/
inductive Cost : List Int → Nat → Prop
  | nil : Cost [] 0
  | cons {xs ys : List Int} {i : Nat} {F : Form} {c : Nat} : xs ≠ [] → i < 5 → mk i xs = some F → Cost ys c → Cost (xs ++ ys) (room F + c)
/-- the fewest -/
structure Fewest (vs : List Int) (m : Nat) : Prop where
  is : Cost vs m
  le : ∀ c, Cost vs c → m ≤ c
theorem Fewest.eq {vs : List Int} {m n : Nat} (a : Fewest vs m) (b : Fewest vs n) : m = n := Nat.le_antisymm (a.le _ b.is) (b.le _ a.is)
theorem Cost.app {xs : List Int} {a : Nat} (h : Cost xs a) : ∀ {ys : List Int} {b : Nat}, Cost ys b → Cost (xs ++ ys) (a + b) := by
  induction h with
  | nil =>
    intro ys b k
    rw [List.nil_append, Nat.zero_add]
    exact k
  | cons h1 h2 h3 _ ih =>
    intro ys b k
    rw [List.append_assoc, Nat.add_assoc]
    exact .cons h1 h2 h3 (ih k)
theorem Cost.one {xs : List Int} {i : Nat} {F : Form} (h : xs ≠ []) (hi : i < 5) (e : mk i xs = some F) : Cost xs (room F) := by
  have k := Cost.cons h hi e .nil
  rw [List.append_nil] at k
  exact k
/-- a cut begins with a stretch -/
theorem Cost.head {vs : List Int} {c : Nat} (h : Cost vs c) (hv : vs ≠ []) : ∃ k i F d, 0 < k ∧ k ≤ vs.length ∧ i < 5 ∧ mk i (vs.take k) = some F ∧ Cost (vs.drop k) d ∧ c = room F + d := by
  cases h with
  | nil => exact absurd rfl hv
  | @cons xs ys i F d h1 h2 h3 h4 =>
    refine ⟨xs.length, i, F, d, List.length_pos_iff.mpr h1, by rw [List.length_append]; omega, h2, ?_, ?_, rfl⟩
    · rw [List.take_left']
      · exact h3
      · rfl
    · rw [List.drop_left']
      · exact h4
      · rfl
theorem Cost.cut {vs : List Int} {k i d : Nat} {F : Form} (h0 : 0 < k) (h1 : k ≤ vs.length) (hi : i < 5) (e : mk i (vs.take k) = some F) (h : Cost (vs.drop k) d) : Cost vs (room F + d) := by
  have q := Cost.cons (by
    intro z
    have := congrArg List.length z
    rw [List.length_take, List.length_nil] at this
    omega) hi e h
  rw [List.take_append_drop] at q
  exact q
theorem cost_nil {c : Nat} (h : Cost [] c) : c = 0 := by
  generalize e : ([] : List Int) = vs at h
  cases h with
  | nil => rfl
  | cons h1 _ _ _ =>
    have := congrArg List.length e
    rw [List.length_append] at this
    have := List.length_pos_iff.mpr h1
    simp at *
    omega
/-- no form has more than three cells a value -/
theorem mk_few {ns : List Int} (h : ns ≠ []) (hl : ns.length ≤ 32) : ∀ {i : Nat} {F : Form}, i < 5 → mk i ns = some F → room F ≤ 3 * ns.length
  | 0, F, _, e => by
    obtain rfl : Form.plain ns = F := Option.some.inj e
    have := List.length_pos_iff.mpr h
    show 1 + ns.length ≤ 3 * ns.length
    omega
  | 1, F, _, e => by
    have e : mkOne ns = some F := e
    unfold mkOne at e
    split at e
    · cases e
    · cases e
      have := List.length_pos_iff.mpr h
      show 3 ≤ 3 * ns.length
      omega
  | 2, F, _, e => by
    have e : mkCodes ns = some F := e
    unfold mkCodes at e
    split at e
    · cases e
    · cases e
      have h2 := usort_length ns
      have h3 := packed_le (b := ((usort ns).length : Int)) (by omega) (ns.map fun v => (idx (usort ns) v : Int))
      rw [List.length_map] at h3
      show 2 + (usort ns).length + _ ≤ 3 * ns.length
      omega
  | 3, F, _, e => by
    have e : mkNear ns = some F := e
    unfold mkNear at e
    split at e
    · cases e
    · rename_i c
      cases e
      have h3 := packedFrom_le (l := lmin ns) (s := lmax ns - lmin ns) (by omega) ns
      have h4 : ns.length ≠ 1 := fun z => by
        obtain ⟨v, rfl⟩ := List.length_eq_one_iff.mp z
        have : lmax [v] - lmin [v] = v - v := rfl
        omega
      have := List.length_pos_iff.mpr h
      show 4 + _ ≤ 3 * ns.length
      omega
  | 4, F, _, e => by
    have e : mkSteps ns = some F := e
    unfold mkSteps at e
    split at e
    · cases e
    · split at e
      · cases e
      · rename_i c
        cases e
        have h3 := packedFrom_le (l := lmin (steps ns)) (s := lmax (steps ns) - lmin (steps ns)) (by omega) (steps ns)
        have h4 := steps_length ns
        show 5 + _ ≤ 3 * ns.length
        omega
  | n + 5, _, h, _ => absurd h (by omega)
theorem cost_few {vs : List Int} {c : Nat} (h : Cost vs c) : vs.length ≤ 32 → c ≤ 3 * vs.length := by
  induction h with
  | nil => intro _; exact Nat.zero_le _
  | cons h1 h2 h3 _ ih =>
    intro hl
    rw [List.length_append] at hl ⊢
    have a := mk_few h1 (by omega) h2 h3
    have b := ih (by omega)
    omega
/-- there is a cut -/
theorem cost_some : ∀ {vs : List Int}, ∃ c, Cost vs c
  | [] => ⟨0, .nil⟩
  | v :: r => ⟨_, Cost.one (by simp) (by decide) (rfl : mk 0 (v :: r) = some (.plain (v :: r)))⟩
/-- rising numbers below a bound are few -/
theorem rises_few : ∀ {l : List Int} {lo b : Int}, l.Pairwise (· < ·) → (∀ y ∈ l, lo ≤ y ∧ y < b) → lo ≤ b → (l.length : Int) ≤ b - lo
  | [], lo, b, _, _, h => by
    show (0 : Int) ≤ b - lo
    omega
  | x :: r, lo, b, p, h, _ => by
    have hx := h x (List.mem_cons_self ..)
    obtain ⟨p1, p2⟩ := List.pairwise_cons.mp p
    have ih := rises_few (l := r) (lo := x + 1) (b := b) p2 (fun y hy => ⟨by have := p1 y hy; omega, (h y (List.mem_cons_of_mem _ hy)).2⟩) (by omega)
    rw [List.length_cons]
    omega
end K3

set_option linter.all false
/-! K5P: the fewest cells step by step, from the front, from the end -/
namespace K3
/-- the stretch from i to j -/
def seg (vs : List Int) (i j : Nat) : List Int := (vs.drop i).take (j - i)
theorem seg_length {vs : List Int} {i j : Nat} (h : j ≤ vs.length) : (seg vs i j).length = j - i := by
  unfold seg
  rw [List.length_take, List.length_drop]
  omega
theorem seg_ne {vs : List Int} {i j : Nat} (h : j ≤ vs.length) (l : i < j) : seg vs i j ≠ [] := fun z => by
  have := seg_length (i := i) h
  rw [z] at this
  simp at this
  omega
theorem take_seg {vs : List Int} {i j : Nat} (h : i ≤ j) : vs.take i ++ seg vs i j = vs.take j := by
  have e : j = i + (j - i) := by omega
  conv => rhs; rw [e, List.take_add]
  rfl
theorem seg_drop {vs : List Int} {i j : Nat} (h : i ≤ j) : seg vs i j ++ vs.drop j = vs.drop i := by
  unfold seg
  have e : vs.drop j = (vs.drop i).drop (j - i) := by rw [List.drop_drop]; congr 1; omega
  rw [e, List.take_append_drop]
/-- a cut ends with a stretch -/
theorem Cost.last {vs : List Int} {c : Nat} (h : Cost vs c) : vs ≠ [] → ∃ k i F d, k < vs.length ∧ i < 5 ∧ mk i (vs.drop k) = some F ∧ Cost (vs.take k) d ∧ c = d + room F := by
  induction h with
  | nil => intro z; exact absurd rfl z
  | @cons xs ys i F d h1 h2 h3 h4 ih =>
    intro _
    by_cases hy : ys = []
    · subst hy
      refine ⟨0, i, F, 0, ?_, h2, ?_, .nil, ?_⟩
      · rw [List.append_nil]
        exact List.length_pos_iff.mpr h1
      · rw [List.append_nil]
        exact h3
      · rw [cost_nil h4]
        omega
    · obtain ⟨k, i', F', d', k1, k2, k3, k4, k5⟩ := ih hy
      refine ⟨xs.length + k, i', F', room F + d', by rw [List.length_append]; omega, k2, ?_, ?_, by omega⟩
      · rw [List.drop_append]
        have e1 : xs.drop (xs.length + k) = [] := List.drop_eq_nil_of_le (by omega)
        have e2 : xs.length + k - xs.length = k := by omega
        rw [e1, e2, List.nil_append]
        exact k3
      · rw [List.take_append]
        have e1 : xs.take (xs.length + k) = xs := List.take_of_length_le (by omega)
        have e2 : xs.length + k - xs.length = k := by omega
        rw [e1, e2]
        exact .cons h1 h2 h3 k4
/-- the least form's room -/
theorem lr_at {vs : List Int} : ∃ i F, i < 5 ∧ mk i vs = some F ∧ room F = lr vs 5 := lr_mem 4
theorem fewest_zero {vs : List Int} : Fewest (vs.take 0) 0 := ⟨.nil, fun _ _ => Nat.zero_le _⟩
/-- one place further -/
theorem fewest_next {vs : List Int} {k m : Nat} (hk : k < vs.length) {f : Nat → Nat} (h : ∀ i, i ≤ k → Fewest (vs.take i) (f i)) (hm : ∃ i, i ≤ k ∧ m = f i + lr (seg vs i (k + 1)) 5) (hle : ∀ i, i ≤ k → m ≤ f i + lr (seg vs i (k + 1)) 5) : Fewest (vs.take (k + 1)) m := by
  refine ⟨?_, fun c hc => ?_⟩
  · obtain ⟨i, hi, rfl⟩ := hm
    obtain ⟨q, F, hq, e, er⟩ := lr_at (vs := seg vs i (k + 1))
    rw [← take_seg (show i ≤ k + 1 by omega), ← er]
    exact (h i hi).is.app (Cost.one (seg_ne (by omega) (by omega)) hq e)
  · have hne : vs.take (k + 1) ≠ [] := fun z => by
      have := congrArg List.length z
      rw [List.length_take, List.length_nil] at this
      omega
    obtain ⟨j, q, F, d, j1, j2, j3, j4, rfl⟩ := hc.last hne
    rw [List.length_take] at j1
    have e1 : (vs.take (k + 1)).take j = vs.take j := by rw [List.take_take]; congr 1; omega
    have e2 : (vs.take (k + 1)).drop j = seg vs j (k + 1) := by
      unfold seg
      rw [List.drop_take]
    rw [e1] at j4
    rw [e2] at j3
    have h1 := (h j (by omega)).le _ j4
    have h2 := lr_le j2 j3
    have h3 := hle j (by omega)
    omega
/-- one place ahead -/
theorem fewest_prev {vs : List Int} {i m : Nat} (hi : i < vs.length) {g : Nat → Nat} (h : ∀ j, i < j → j ≤ vs.length → Fewest (vs.drop j) (g j)) (hm : ∃ j, i < j ∧ j ≤ vs.length ∧ m = lr (seg vs i j) 5 + g j) (hle : ∀ j, i < j → j ≤ vs.length → m ≤ lr (seg vs i j) 5 + g j) : Fewest (vs.drop i) m := by
  refine ⟨?_, fun c hc => ?_⟩
  · obtain ⟨j, h1, h2, rfl⟩ := hm
    obtain ⟨q, F, hq, e, er⟩ := lr_at (vs := seg vs i j)
    rw [← seg_drop (show i ≤ j by omega), ← er]
    exact Cost.cons (seg_ne h2 h1) hq e (h j h1 h2).is
  · have hne : vs.drop i ≠ [] := fun z => by
      have := congrArg List.length z
      rw [List.length_drop, List.length_nil] at this
      omega
    obtain ⟨k, q, F, d, k0, k1, k2, k3, k4, rfl⟩ := hc.head hne
    rw [List.length_drop] at k1
    have e1 : (vs.drop i).take k = seg vs i (i + k) := by
      unfold seg
      congr 1
      omega
    have e2 : (vs.drop i).drop k = vs.drop (i + k) := by rw [List.drop_drop]
    rw [e1] at k3
    rw [e2] at k4
    have h1 := (h (i + k) (by omega) (by omega)).le _ k4
    have h2 := lr_le k2 k3
    have h3 := hle (i + k) (by omega) (by omega)
    omega
theorem fewest_end {vs : List Int} : Fewest (vs.drop vs.length) 0 := by
  rw [List.drop_length]
  exact ⟨.nil, fun _ _ => Nat.zero_le _⟩
/-- no stretch has fewer cells than what its ends' prices differ by -/
theorem fewest_gap {vs : List Int} {i j a b q : Nat} {F : Form} (l : i < j) (hj : j ≤ vs.length) (ha : Fewest (vs.take i) a) (hb : Fewest (vs.take j) b) (hq : q < 5) (e : mk q (seg vs i j) = some F) : b ≤ a + room F := by
  refine hb.le _ ?_
  rw [← take_seg (show i ≤ j by omega)]
  exact ha.is.app (Cost.one (seg_ne hj l) hq e)
end K3

set_option linter.all false
/-! KC: the fewest cells of a stretch by its length, unlike values, spans -/
namespace K3
/-- cells of packed numbers; none for a base of 1 -/
def pcells (b : Int) (n : Nat) : Nat := if b = 1 then 0 else cells (perC b) n
/-- as the program reckons: n values, u unlike, spans s and t -/
def fcells (n u : Nat) (s t : Int) : Nat :=
  if u = 1 then min (1 + n) 3 else
    let a := min (1 + n) (2 + u + pcells u n)
    let b := if s ≤ 9999 then min a (4 + pcells (s + 1) n) else a
    if t ≤ 9999 then min b (5 + pcells (t + 1) (n - 1)) else b
theorem packed_cells {b : Int} (hb : b ≤ 10000) (ns : List Int) : (packed b ns).length = cells (perC b) ns.length := by
  rw [← packed_eq hb, List.length_map, List.length_range]
theorem packedFrom_cells {l s : Int} (h0 : 0 ≤ s) (h : s ≤ 9999) (ns : List Int) : (packedFrom l s ns).length = pcells (s + 1) ns.length := by
  unfold packedFrom pcells
  by_cases c : s = 0
  · rw [if_pos c, if_pos (by omega)]
    rfl
  · rw [if_neg c, if_neg (by omega), packed_cells (by omega), List.length_map]
/-- the room of the i-th form, if there is one -/
theorem room1 {ns : List Int} {F : Form} (e : mk 1 ns = some F) : room F = 3 ∧ ¬ lmin ns < lmax ns := by
  have e : mkOne ns = some F := e
  unfold mkOne at e
  split at e
  · cases e
  · rename_i c
    cases e
    exact ⟨rfl, c⟩
theorem room2 {ns : List Int} {F : Form} (G : ns.length ≤ 32) (e : mk 2 ns = some F) : room F = 2 + (usort ns).length + pcells (usort ns).length ns.length ∧ 2 ≤ (usort ns).length := by
  have e : mkCodes ns = some F := e
  unfold mkCodes at e
  have hu := usort_length ns
  split at e
  · cases e
  · rename_i c
    cases e
    refine ⟨?_, by omega⟩
    show 2 + (usort ns).length + (packed _ _).length = _
    rw [packed_cells (by omega), List.length_map]
    unfold pcells
    rw [if_neg (by omega)]
theorem room3 {ns : List Int} {F : Form} (e : mk 3 ns = some F) : room F = 4 + pcells (lmax ns - lmin ns + 1) ns.length ∧ 1 ≤ lmax ns - lmin ns ∧ lmax ns - lmin ns ≤ 9999 := by
  have e : mkNear ns = some F := e
  unfold mkNear at e
  split at e
  · cases e
  · rename_i c
    cases e
    refine ⟨?_, by omega, by omega⟩
    show 4 + (packedFrom _ _ _).length = _
    rw [packedFrom_cells (by omega) (by omega)]
theorem room4 {ns : List Int} {F : Form} (e : mk 4 ns = some F) : room F = 5 + pcells (lmax (steps ns) - lmin (steps ns) + 1) (ns.length - 1) ∧ 2 ≤ ns.length ∧ lmax (steps ns) - lmin (steps ns) ≤ 9999 := by
  have e : mkSteps ns = some F := e
  unfold mkSteps at e
  split at e
  · cases e
  · rename_i c0
    split at e
    · cases e
    · rename_i c
      cases e
      have := span_nn (steps_ne c0)
      refine ⟨?_, by omega, by omega⟩
      show 5 + (packedFrom _ _ _).length = _
      rw [packedFrom_cells (by omega) (by omega), steps_length]
/-- one unlike value just where all are alike -/
theorem unl_one {ns : List Int} (h : ns ≠ []) : (usort ns).length = 1 ↔ ¬ lmin ns < lmax ns :=
  one_iff h ((usort_rises ns).imp fun {a b} hab => by omega) fun k => mem_usort k ns
theorem unl_pos {ns : List Int} (h : ns ≠ []) : 1 ≤ (usort ns).length := List.length_pos_iff.mpr (usort_ne h)
/-- the step span as the program has it: of a single value less than nothing -/
def stepSpan (ns : List Int) : Int := if ns.length < 2 then -39996 else lmax (steps ns) - lmin (steps ns)
theorem fcells_lr {ns : List Int} (h : ns ≠ []) (hl : ns.length ≤ 32) : fcells ns.length (usort ns).length (lmax ns - lmin ns) (stepSpan ns) = lr ns 5 := by
  have hp := List.length_pos_iff.mpr h
  have hu := unl_pos h
  have hul := usort_length ns
  have l0 : lr ns 5 ≤ 1 + ns.length := lr_le (j := 0) (by omega) (rfl : mk 0 ns = some (.plain ns))
  obtain ⟨i, F, hi, e, er⟩ := lr_at (vs := ns)
  by_cases c : (usort ns).length = 1
  · have ca := (unl_one h).mp c
    have e1 : mk 1 ns = some (.one ns.length (ns.headD 0)) := by
      show mkOne ns = _
      unfold mkOne
      rw [if_neg ca]
    have l1 : lr ns 5 ≤ 3 := lr_le (j := 1) (by omega) e1
    have ef : fcells ns.length (usort ns).length (lmax ns - lmin ns) (stepSpan ns) = min (1 + ns.length) 3 := by
      unfold fcells
      rw [if_pos c]
    rw [ef]
    rw [← er] at l0 l1 ⊢
    match i, hi with
    | 0, _ =>
      obtain rfl : Form.plain ns = F := Option.some.inj e
      have : room (.plain ns) = 1 + ns.length := rfl
      omega
    | 1, _ =>
      have := room1 e
      omega
    | 2, _ =>
      have := room2 hl e
      omega
    | 3, _ =>
      have := room3 e
      have ca2 := span_nn h
      omega
    | 4, _ =>
      have := room4 e
      omega
  · have ca : lmin ns < lmax ns := by
      by_cases z : lmin ns < lmax ns
      · exact z
      · exact absurd ((unl_one h).mpr z) c
    have sn := span_nn h
    have n2 : 2 ≤ ns.length := by omega
    have e2 : ∃ F, mk 2 ns = some F := by
      show ∃ F, mkCodes ns = some F
      unfold mkCodes
      rw [if_neg (by omega)]
      exact ⟨_, rfl⟩
    obtain ⟨F2, e2⟩ := e2
    have l2 : lr ns 5 ≤ room F2 := lr_le (j := 2) (by omega) e2
    have r2 := room2 hl e2
    have l3 : lmax ns - lmin ns ≤ 9999 → lr ns 5 ≤ 4 + pcells (lmax ns - lmin ns + 1) ns.length := fun z => by
      have e3 : ∃ F, mk 3 ns = some F := by
        show ∃ F, mkNear ns = some F
        unfold mkNear
        rw [if_neg (by omega)]
        exact ⟨_, rfl⟩
      obtain ⟨F3, e3⟩ := e3
      rw [← (room3 e3).1]
      exact lr_le (j := 3) (by omega) e3
    have es : stepSpan ns = lmax (steps ns) - lmin (steps ns) := by
      unfold stepSpan
      rw [if_neg (by omega)]
    have l4 : stepSpan ns ≤ 9999 → lr ns 5 ≤ 5 + pcells (stepSpan ns + 1) (ns.length - 1) := fun z => by
      rw [es] at z ⊢
      have e4 : ∃ F, mk 4 ns = some F := by
        show ∃ F, mkSteps ns = some F
        unfold mkSteps
        rw [if_neg (by omega), if_neg (by omega)]
        exact ⟨_, rfl⟩
      obtain ⟨F4, e4⟩ := e4
      rw [← (room4 e4).1]
      exact lr_le (j := 4) (by omega) e4
    unfold fcells
    rw [if_neg c]
    show (if stepSpan ns ≤ 9999 then min (if lmax ns - lmin ns ≤ 9999 then min (min (1 + ns.length) (2 + (usort ns).length + pcells (usort ns).length ns.length)) (4 + pcells (lmax ns - lmin ns + 1) ns.length) else min (1 + ns.length) (2 + (usort ns).length + pcells (usort ns).length ns.length)) (5 + pcells (stepSpan ns + 1) (ns.length - 1)) else (if lmax ns - lmin ns ≤ 9999 then min (min (1 + ns.length) (2 + (usort ns).length + pcells (usort ns).length ns.length)) (4 + pcells (lmax ns - lmin ns + 1) ns.length) else min (1 + ns.length) (2 + (usort ns).length + pcells (usort ns).length ns.length))) = lr ns 5
    rw [r2.1] at l2
    rw [← er] at l0 l2 l3 l4 ⊢
    have hF : room F = 1 + ns.length ∨ room F = 2 + (usort ns).length + pcells (usort ns).length ns.length ∨ (lmax ns - lmin ns ≤ 9999 ∧ room F = 4 + pcells (lmax ns - lmin ns + 1) ns.length) ∨ (stepSpan ns ≤ 9999 ∧ room F = 5 + pcells (stepSpan ns + 1) (ns.length - 1)) := by
      match i, hi with
      | 0, _ =>
        obtain rfl : Form.plain ns = F := Option.some.inj e
        exact .inl rfl
      | 1, _ => exact absurd ca (room1 e).2
      | 2, _ => exact .inr (.inl (room2 hl e).1)
      | 3, _ => exact .inr (.inr (.inl ⟨(room3 e).2.2, (room3 e).1⟩))
      | 4, _ => rw [es]; exact .inr (.inr (.inr ⟨(room4 e).2.2, (room4 e).1⟩))
    generalize pcells (usort ns).length ns.length = A at *
    generalize pcells (lmax ns - lmin ns + 1) ns.length = B at *
    generalize pcells (stepSpan ns + 1) (ns.length - 1) = C at *
    generalize room F = R at *
    generalize stepSpan ns = S at *
    generalize lmax ns - lmin ns = T at *
    by_cases c1 : S ≤ 9999
    · by_cases c2 : T ≤ 9999
      · rw [if_pos c1, if_pos c2]
        have := l3 c2
        have := l4 c1
        omega
      · rw [if_pos c1, if_neg c2]
        have := l4 c1
        omega
    · by_cases c2 : T ≤ 9999
      · rw [if_neg c1, if_pos c2]
        have := l3 c2
        omega
      · rw [if_neg c1, if_neg c2]
        omega
/-! ### one value more -/
theorem ins_new (x : Int) : ∀ l : List Int, x ∉ l → (ins x l).length = l.length + 1
  | [], _ => rfl
  | y :: r, h => by
    have h1 : x ≠ y := fun z => h (z ▸ List.mem_cons_self ..)
    have h2 : x ∉ r := fun z => h (List.mem_cons_of_mem _ z)
    show (if x < y then x :: y :: r else if x = y then y :: r else y :: ins x r).length = r.length + 1 + 1
    by_cases c : x < y
    · rw [if_pos c]
      rfl
    · rw [if_neg c, if_neg h1, List.length_cons, ins_new x r h2]
theorem ins_old (x : Int) : ∀ {l : List Int}, l.Pairwise (· < ·) → x ∈ l → ins x l = l
  | [], _, h => absurd h (by simp)
  | y :: r, p, h => by
    obtain ⟨p1, p2⟩ := List.pairwise_cons.mp p
    unfold ins
    rcases List.mem_cons.mp h with rfl | h
    · rw [if_neg (by omega), if_pos rfl]
    · have := p1 x h
      rw [if_neg (by omega), if_neg (by omega), ins_old x p2 h]
theorem usort_snoc (ns : List Int) (x : Int) : usort (ns ++ [x]) = ins x (usort ns) :=
  (usort_eq (ins_rises x (usort_rises ns)) fun k => by
    rw [mem_ins, mem_usort, List.mem_append, List.mem_singleton]
    exact or_comm).symm
theorem usort_more (ns : List Int) (x : Int) : (usort (ns ++ [x])).length = if x ∈ ns then (usort ns).length else (usort ns).length + 1 := by
  rw [usort_snoc]
  by_cases c : x ∈ ns
  · rw [if_pos c, ins_old x (usort_rises ns) ((mem_usort x ns).mpr c)]
  · rw [if_neg c, ins_new x _ (fun z => c ((mem_usort x ns).mp z))]
theorem lmin_snoc {ns : List Int} (h : ns ≠ []) (x : Int) : lmin (ns ++ [x]) = if x < lmin ns then x else lmin ns := by
  obtain ⟨a, b⟩ := lmin_ok h
  refine (lmin_eq ?_ fun y hy => ?_).symm
  · split
    · exact List.mem_append_right _ (List.mem_singleton.mpr rfl)
    · exact List.mem_append_left _ a
  · rcases List.mem_append.mp hy with z | z
    · have := b y z
      split <;> omega
    · rw [List.mem_singleton.mp z]
      split <;> omega
theorem lmax_snoc {ns : List Int} (h : ns ≠ []) (x : Int) : lmax (ns ++ [x]) = if x > lmax ns then x else lmax ns := by
  obtain ⟨a, b⟩ := lmax_ok h
  refine (lmax_eq ?_ fun y hy => ?_).symm
  · split
    · exact List.mem_append_right _ (List.mem_singleton.mpr rfl)
    · exact List.mem_append_left _ a
  · rcases List.mem_append.mp hy with z | z
    · have := b y z
      split <;> omega
    · rw [List.mem_singleton.mp z]
      split <;> omega
theorem steps_snoc : ∀ {ns : List Int} {y : Int} (_ : ns.getLast? = some y) (x : Int), steps (ns ++ [x]) = steps ns ++ [x - y]
  | [], _, h, _ => by simp at h
  | [n], y, h, x => by
    obtain rfl : n = y := by simpa using h
    rfl
  | n :: m :: r, y, h, x => by
    rw [List.getLast?_cons_cons] at h
    show (m - n) :: steps (m :: r ++ [x]) = (m - n) :: (steps (m :: r) ++ [x - y])
    rw [steps_snoc (ns := m :: r) h x]
/-! ### a stretch one value longer -/
theorem seg_more {vs : List Int} {i j : Nat} {x : Int} (h : i ≤ j) (hx : vs[j]? = some x) : seg vs i (j + 1) = seg vs i j ++ [x] := by
  unfold seg
  have e : j + 1 - i = (j - i) + 1 := by omega
  rw [e]
  refine take_more' ?_
  rw [List.getElem?_drop]
  have e2 : i + (j - i) = j := by omega
  rw [e2]
  exact hx
where
  take_more' {α : Type} {l : List α} {k : Nat} {x : α} (h : l[k]? = some x) : l.take (k + 1) = l.take k ++ [x] := by
    obtain ⟨hl, e⟩ := List.getElem?_eq_some_iff.mp h
    rw [List.take_succ, h]
    rfl
theorem seg_last {vs : List Int} {i j : Nat} {x : Int} (h : i < j) (hj : j ≤ vs.length) (hx : vs[j - 1]? = some x) : (seg vs i j).getLast? = some x := by
  rw [List.getLast?_eq_getElem?, seg_length hj]
  unfold seg
  rw [List.getElem?_take, if_pos (by omega), List.getElem?_drop]
  have e : i + (j - i - 1) = j - 1 := by omega
  rw [e]
  exact hx
theorem seg_nil {vs : List Int} {i : Nat} : seg vs i i = [] := by
  unfold seg
  rw [Nat.sub_self, List.take_zero]
/-- the least step as the program has it -/
def lowS (g : List Int) : Int := if g.length < 2 then 19998 else lmin (steps g)
def highS (g : List Int) : Int := if g.length < 2 then -19998 else lmax (steps g)
theorem stepSpan_eq (g : List Int) : stepSpan g = highS g - lowS g := by
  unfold stepSpan highS lowS
  by_cases c : g.length < 2
  · rw [if_pos c, if_pos c, if_pos c]
    rfl
  · rw [if_neg c, if_neg c, if_neg c]
theorem lowS_snoc {g : List Int} {y x : Int} (h : g.getLast? = some y) (hb : x - y ≤ 19998) : lowS (g ++ [x]) = if x - y < lowS g then x - y else lowS g := by
  have hne : g ≠ [] := fun z => by
    rw [z] at h
    simp at h
  have hp := List.length_pos_iff.mpr hne
  have e1 : lowS (g ++ [x]) = lmin (steps g ++ [x - y]) := by
    unfold lowS
    rw [if_neg (by rw [List.length_append, List.length_singleton]; omega), steps_snoc h]
  rw [e1]
  by_cases c : g.length < 2
  · have e2 : steps g = [] := List.length_eq_zero_iff.mp (by rw [steps_length]; omega)
    have e3 : lowS g = 19998 := if_pos c
    rw [e2, e3]
    show x - y = _
    split <;> omega
  · have e3 : lowS g = lmin (steps g) := if_neg c
    rw [e3, lmin_snoc (steps_ne c)]
theorem highS_snoc {g : List Int} {y x : Int} (h : g.getLast? = some y) (hb : -19998 ≤ x - y) : highS (g ++ [x]) = if x - y > highS g then x - y else highS g := by
  have hne : g ≠ [] := fun z => by
    rw [z] at h
    simp at h
  have hp := List.length_pos_iff.mpr hne
  have e1 : highS (g ++ [x]) = lmax (steps g ++ [x - y]) := by
    unfold highS
    rw [if_neg (by rw [List.length_append, List.length_singleton]; omega), steps_snoc h]
  rw [e1]
  by_cases c : g.length < 2
  · have e2 : steps g = [] := List.length_eq_zero_iff.mp (by rw [steps_length]; omega)
    have e3 : highS g = -19998 := if_pos c
    rw [e2, e3]
    show x - y = _
    split <;> omega
  · have e3 : highS g = lmax (steps g) := if_neg c
    rw [e3, lmax_snoc (steps_ne c)]
/-- the least as the program has it: ahead of the first turn the first value -/
def leastS (x0 : Int) (g : List Int) : Int := if g = [] then x0 else lmin g
def greatS (x0 : Int) (g : List Int) : Int := if g = [] then x0 else lmax g
theorem leastS_snoc {x0 x : Int} {g : List Int} (h : g = [] → x = x0) : leastS x0 (g ++ [x]) = if x < leastS x0 g then x else leastS x0 g := by
  have e1 : leastS x0 (g ++ [x]) = lmin (g ++ [x]) := if_neg (by simp)
  rw [e1]
  by_cases c : g = []
  · have e2 : leastS x0 g = x0 := if_pos c
    rw [e2, h c, c]
    show x0 = _
    split <;> rfl
  · have e2 : leastS x0 g = lmin g := if_neg c
    rw [e2, lmin_snoc c]
theorem greatS_snoc {x0 x : Int} {g : List Int} (h : g = [] → x = x0) : greatS x0 (g ++ [x]) = if x > greatS x0 g then x else greatS x0 g := by
  have e1 : greatS x0 (g ++ [x]) = lmax (g ++ [x]) := if_neg (by simp)
  rw [e1]
  by_cases c : g = []
  · have e2 : greatS x0 g = x0 := if_pos c
    rw [e2, h c, c]
    show x0 = _
    split <;> rfl
  · have e2 : greatS x0 g = lmax g := if_neg c
    rw [e2, lmax_snoc c]
end K3

set_option Elab.async false
set_option linter.all false
set_option maxRecDepth 100000
set_option maxHeartbeats 4000000
namespace K3
open PySem PySem.Spec PyProof.Rows L2
/-- ints, truths, texts, None; tuples and lists of such: the same data -/
inductive Alk (K : PySem.W.Frag) (H : Hp) : Nat → V → V → Prop where
  | non {n : Nat} : Alk K H n .non .non
  | int {n : Nat} (i : Int) : Alk K H n (.int i) (.int i)
  | bl {n : Nat} (b : Bool) : Alk K H n (.bl b) (.bl b)
  | str {n : Nat} (z : Str) : Alk K H n (.str z) (.str z)
  | tup {n : Nat} {a b : Addr} {xs ys : List V} (ha : SqT K H a xs) (hb : SqT K H b ys) (hl : xs.length ≤ 10000) (h : xs.length = ys.length) (e : ∀ (i : Nat) (x y : V), xs[i]? = some x → ys[i]? = some y → Alk K H n x y) : Alk K H (n + 1) (.ref a) (.ref b)
  | lst {n : Nat} {a b : Addr} {xs ys : List V} (ha : SqL K H a xs) (hb : SqL K H b ys) (hl : xs.length ≤ 10000) (h : xs.length = ys.length) (e : ∀ (i : Nat) (x y : V), xs[i]? = some x → ys[i]? = some y → Alk K H n x y) : Alk K H (n + 1) (.ref a) (.ref b)
theorem tyX_seqL {K : PySem.W.Frag} {H : Hp} {t : Addr} {xs : List V} (h : SqL K H t xs) : TyX K H (.ref t) (.type "list") := by
  rcases h with (h | ⟨o, h⟩) | h
  · exact .base (.lst h)
  · exact .base (.frz h)
  · obtain ⟨o, _, _, e, c, _⟩ := h
    exact .kList e c
/-- the builtins that it names -/
structure Txt4 (mg : Str → Option Value) : Prop where
  b_bool : mg "bool" = none
  b_str : mg "str" = none
  b_sum : mg "sum" = none
section
variable {P : Program} {w : World} {K : PySem.W.Frag} {mg : Str → Option Value} {base : Heap}
abbrev s__law_alike : Stmt := top 59
abbrev N__law_alike : List Str := ["_law_found", "_law_due", "_law_k"]
abbrev P__law_alike : List Str := ["_law_found", "_law_due"]
theorem sc__law_alike : FnScope N__law_alike P__law_alike (defScope s__law_alike) := ⟨rfl, rfl, rfl, by decide +kernel, rfl, by decide +kernel, by decide +kernel⟩
def spAlike (K : PySem.W.Frag) (n : Nat) : Sp := fun vs H Q _ => ∃ x y, vs = [x, y] ∧ ∃ m, m < n ∧ Alk K H m x y ∧ Q (.bl true) H
theorem ok_alikeS {n : Nat} (T : Txt mg) (T4 : Txt4 mg) (D : Df K mg "_law_alike" s__law_alike P__law_alike) (G_alike : Fn P w K mg base CX0 (1 + n) "_law_alike" P__law_alike (spAlike K n)) : Fn P w K mg base CX0 (1 + n + 1) "_law_alike" P__law_alike (spAlike K (n + 1)) := by
  refine D.ok sc__law_alike (fun vs H Q E h => ?_) (fun f cdv A outer s H vs Q E hr h => ?_)
  · obtain ⟨x, y, rfl, _⟩ := h
    rfl
  · obtain ⟨x, y, rfl, m, hm, hA, k⟩ := h
    have nd := sc__law_alike.nd
    refine ⟨_, (pss_cons (ps_if (pt_cmpR op_isN (pv 1) pe_non (nomark _))
  (pss_one (ps_ret (pe_cmpR op_isN (pv 0) pe_non (nomark _))))
  pss_nil)
  (pss_cons (ps_if (pt_val (pe_callB call_isi (by rfl) T.b_isinstance (by decide +kernel) (pa_cons (pv 1) (pa_cons (pe_bltn (v := .ty "bool") (by rfl) T4.b_bool (by decide +kernel) rfl) pa_nil))))
  (pss_one (ps_ret (pe_and (pe_callB call_isi (by rfl) T.b_isinstance (by decide +kernel) (pa_cons (pv 0) (pa_cons (pe_bltn (v := .ty "bool") (by rfl) T4.b_bool (by decide +kernel) rfl) pa_nil))) (pe_one (pe_cmpR op_eq (pv 0) (pv 1) (nomark _))))))
  pss_nil)
  (pss_cons (ps_if (pt_val (pe_callB call_isi (by rfl) T.b_isinstance (by decide +kernel) (pa_cons (pv 1) (pa_cons (pe_bltn (v := .ty "int") (by rfl) T.b_int (by decide +kernel) rfl) pa_nil))))
  (pss_one (ps_ret (pe_and (pe_callB call_isi (by rfl) T.b_isinstance (by decide +kernel) (pa_cons (pv 0) (pa_cons (pe_bltn (v := .ty "int") (by rfl) T.b_int (by decide +kernel) rfl) pa_nil))) (pe_and (pe_not (pe_callB call_isi (by rfl) T.b_isinstance (by decide +kernel) (pa_cons (pv 0) (pa_cons (pe_bltn (v := .ty "bool") (by rfl) T4.b_bool (by decide +kernel) rfl) pa_nil)))) (pe_one (pe_cmpR op_eq (pv 0) (pv 1) (nomark _)))))))
  pss_nil)
  (pss_cons (ps_if (pt_val (pe_callB call_isi (by rfl) T.b_isinstance (by decide +kernel) (pa_cons (pv 1) (pa_cons (pe_bltn (v := .ty "str") (by rfl) T4.b_str (by decide +kernel) rfl) pa_nil))))
  (pss_one (ps_ret (pe_and (pe_callB call_isi (by rfl) T.b_isinstance (by decide +kernel) (pa_cons (pv 0) (pa_cons (pe_bltn (v := .ty "str") (by rfl) T4.b_str (by decide +kernel) rfl) pa_nil))) (pe_one (pe_cmpR op_eq (pv 0) (pv 1) (nomark _))))))
  pss_nil)
  (pss_cons (ps_if (PW.pt (pw_or (pt_cmpR op_ne (pe_callB call_isi (by rfl) T.b_isinstance (by decide +kernel) (pa_cons (pv 1) (pa_cons (pe_bltn (v := .ty "tuple") (by rfl) T.b_tuple (by decide +kernel) rfl) pa_nil))) (pe_callB call_isi (by rfl) T.b_isinstance (by decide +kernel) (pa_cons (pv 0) (pa_cons (pe_bltn (v := .ty "tuple") (by rfl) T.b_tuple (by decide +kernel) rfl) pa_nil))) (nomark _)) (pw_or1 (pt_cmpR op_ne (pe_callB call_isi (by rfl) T.b_isinstance (by decide +kernel) (pa_cons (pv 1) (pa_cons (pe_bltn (v := .ty "list") (by rfl) T.b_list (by decide +kernel) rfl) pa_nil))) (pe_callB call_isi (by rfl) T.b_isinstance (by decide +kernel) (pa_cons (pv 0) (pa_cons (pe_bltn (v := .ty "list") (by rfl) T.b_list (by decide +kernel) rfl) pa_nil))) (nomark _)))))
  (pss_one (ps_ret pe_bl))
  pss_nil)
  (pss_cons (ps_if (pt_cmpR op_ne (pe_callB call_len_seq (by rfl) T.b_len (by decide +kernel) (pa_cons (pv 0) pa_nil)) (pe_callB call_len_seq (by rfl) T.b_len (by decide +kernel) (pa_cons (pv 1) pa_nil)) (nomark _))
  (pss_one (ps_ret pe_bl))
  pss_nil)
  (pss_cons (ps_for PassesOwn.never rfl (pi_range1 (by rfl) T.b_range (pa_cons (pe_callB call_len_seq (by rfl) T.b_len (by decide +kernel) (pa_cons (pv 1) pa_nil)) pa_nil)) (pg_name (i := 2) nd rfl (by first | exact Or.inl rfl | exact Or.inr rfl))
  (pss_one (ps_if (pt_not (pt_val (pe_c G_alike hr pass0 (pa_cons (pe_ix ix_seq (pv 0) (pv 2) (fun _ _ => rfl)) (pa_cons (pe_ix ix_seq (pv 1) (pv 2) (fun _ _ => rfl)) pa_nil)))))
  (pss_one (ps_ret pe_bl))
  pss_nil)))
  (pss_one (ps_ret pe_bl))))))))), ?_⟩
    cases hA with
    | non =>
      refine ⟨_, rfl, rfl, _, rfl, ?_⟩
      refine ite2 (fun _ => ?_) (fun c => absurd rfl c)
      exact ⟨_, rfl, rfl, k⟩
    | int i =>
      refine ⟨_, rfl, rfl, _, rfl, ?_⟩
      refine ite2 (fun c => nomatch (of_decide_eq_true c)) (fun _ => ?_)
      refine ⟨_, rfl, _, .ty "bool", .type "int", .type "bool", false, rfl, .ty _, .base (.int _), kit_ty (by decide +kernel), _, rfl, ite2 (fun c => Bool.noConfusion c) (fun _ => ?_)⟩
      refine ⟨_, rfl, _, .ty "int", .type "int", .type "int", true, rfl, .ty _, .base (.int _), kit_ty (by decide +kernel), _, rfl, ite2 (fun _ => ?_) (fun c => absurd rfl c)⟩
      refine ⟨_, rfl, _, .ty "int", .type "int", .type "int", true, rfl, .ty _, .base (.int _), kit_ty (by decide +kernel), _, rfl, ite2 (fun _ => ?_) (fun c => absurd rfl c)⟩
      refine ⟨_, rfl, _, .ty "bool", .type "int", .type "bool", false, rfl, .ty _, .base (.int _), kit_ty (by decide +kernel), _, rfl, _, rfl, ite2 (fun _ => ?_) (fun c => absurd rfl c)⟩
      refine ⟨_, rfl, _, rfl, rfl, ?_⟩
      have e : decide (V.int i = V.int i) = true := decide_eq_true rfl
      rw [e]
      exact k
    | bl b =>
      refine ⟨_, rfl, rfl, _, rfl, ?_⟩
      refine ite2 (fun c => nomatch (of_decide_eq_true c)) (fun _ => ?_)
      refine ⟨_, rfl, _, .ty "bool", .type "bool", .type "bool", true, rfl, .ty _, .base (.bl _), kit_ty (by decide +kernel), _, rfl, ite2 (fun _ => ?_) (fun c => absurd rfl c)⟩
      refine ⟨_, rfl, _, .ty "bool", .type "bool", .type "bool", true, rfl, .ty _, .base (.bl _), kit_ty (by decide +kernel), _, rfl, ite2 (fun _ => ?_) (fun c => absurd rfl c)⟩
      refine ⟨_, rfl, _, rfl, rfl, ?_⟩
      have e : decide (V.bl b = V.bl b) = true := decide_eq_true rfl
      rw [e]
      exact k
    | str z =>
      refine ⟨_, rfl, rfl, _, rfl, ?_⟩
      refine ite2 (fun c => nomatch (of_decide_eq_true c)) (fun _ => ?_)
      refine ⟨_, rfl, _, .ty "bool", .type "str", .type "bool", false, rfl, .ty _, .base (.str _), kit_ty (by decide +kernel), _, rfl, ite2 (fun c => Bool.noConfusion c) (fun _ => ?_)⟩
      refine ⟨_, rfl, _, .ty "int", .type "str", .type "int", false, rfl, .ty _, .base (.str _), kit_ty (by decide +kernel), _, rfl, ite2 (fun c => Bool.noConfusion c) (fun _ => ?_)⟩
      refine ⟨_, rfl, _, .ty "str", .type "str", .type "str", true, rfl, .ty _, .base (.str _), kit_ty (by decide +kernel), _, rfl, ite2 (fun _ => ?_) (fun c => absurd rfl c)⟩
      refine ⟨_, rfl, _, .ty "str", .type "str", .type "str", true, rfl, .ty _, .base (.str _), kit_ty (by decide +kernel), _, rfl, ite2 (fun _ => ?_) (fun c => absurd rfl c)⟩
      refine ⟨_, rfl, _, rfl, rfl, ?_⟩
      have e : decide (V.str z = V.str z) = true := decide_eq_true rfl
      rw [e]
      exact k
    | @tup m a b xs ys ha hb hl hlen e =>
      refine ⟨_, rfl, rfl, _, rfl, ?_⟩
      refine ite2 (fun c => nomatch (of_decide_eq_true c)) (fun _ => ?_)
      refine ⟨_, rfl, _, .ty "bool", .type "tuple", .type "bool", false, rfl, .ty _, tyX_seqT hb, kit_ty (by decide +kernel), _, rfl, ite2 (fun c => Bool.noConfusion c) (fun _ => ?_)⟩
      refine ⟨_, rfl, _, .ty "int", .type "tuple", .type "int", false, rfl, .ty _, tyX_seqT hb, kit_ty (by decide +kernel), _, rfl, ite2 (fun c => Bool.noConfusion c) (fun _ => ?_)⟩
      refine ⟨_, rfl, _, .ty "str", .type "tuple", .type "str", false, rfl, .ty _, tyX_seqT hb, kit_ty (by decide +kernel), _, rfl, ite2 (fun c => Bool.noConfusion c) (fun _ => ?_)⟩
      refine ⟨_, rfl, _, .ty "tuple", .type "tuple", .type "tuple", true, rfl, .ty _, tyX_seqT hb, kit_ty (by decide +kernel), ?_⟩
      refine ⟨_, rfl, _, .ty "tuple", .type "tuple", .type "tuple", true, rfl, .ty _, tyX_seqT ha, kit_ty (by decide +kernel), rfl, _, rfl, ?_⟩
      refine ite2 (fun c => Bool.noConfusion (show false = true from c)) (fun _ => ?_)
      refine ⟨_, rfl, _, .ty "list", .type "tuple", .type "list", false, rfl, .ty _, tyX_seqT hb, kit_ty (by decide +kernel), ?_⟩
      refine ⟨_, rfl, _, .ty "list", .type "tuple", .type "list", false, rfl, .ty _, tyX_seqT ha, kit_ty (by decide +kernel), rfl, _, rfl, ?_⟩
      refine ite2 (fun c => Bool.noConfusion (show false = true from c)) (fun _ => ?_)
      refine ⟨_, rfl, a, xs, rfl, .inr ha, _, rfl, b, ys, rfl, .inr hb, rfl, _, rfl, ?_⟩
      rw [hlen, decide_eq_true (rfl : V.int (ys.length : Nat) = V.int (ys.length : Nat))]
      refine ite2 (fun c => Bool.noConfusion (show false = true from c)) (fun _ => ?_)
      refine ⟨_, rfl, b, ys, rfl, .inr hb, (ys.length : Nat), rfl, by omega, by omega, ?_⟩
      have en : ((ys.length : Nat) : Int).toNat = ys.length := Int.toNat_natCast _
      rw [en]
      refine for_it (walk_range (lo := 0)) (fun i σ H' => ∃ v, σ = [some (.ref a), some (.ref b), v] ∧ H' = H) ⟨none, rfl, rfl⟩ (fun _ _ _ _ _ => True.intro) ?_ ?_
      · rintro i x σ H1 H1' hi ⟨v, rfl, rfl⟩ ⟨rfl, rfl⟩
        have hx : xs[i]? = some (xs[i]'(by omega)) := List.getElem?_eq_getElem (by omega)
        have hy : ys[i]? = some ys[i] := List.getElem?_eq_getElem hi
        refine ⟨_, rfl, _, rfl, (.inr (.inl ⟨a, xs, _, _, rfl, rfl, ha, at_of (j := i) (by omega) hx, _, rfl, _, rfl, (.inr (.inl ⟨b, ys, _, _, rfl, rfl, hb, at_of (j := i) (by omega) hy, _, _, rfl, m, by omega, e i _ _ hx hy, ?_⟩))⟩))⟩
        refine ⟨_, rfl, ite2 (fun c => Bool.noConfusion (show false = true from c)) (fun _ => ⟨_, rfl, rfl⟩)⟩
      · rintro σ H1 ⟨v, rfl, rfl⟩
        exact k
    | @lst m a b xs ys ha hb hl hlen e =>
      refine ⟨_, rfl, rfl, _, rfl, ?_⟩
      refine ite2 (fun c => nomatch (of_decide_eq_true c)) (fun _ => ?_)
      refine ⟨_, rfl, _, .ty "bool", .type "list", .type "bool", false, rfl, .ty _, tyX_seqL hb, kit_ty (by decide +kernel), _, rfl, ite2 (fun c => Bool.noConfusion c) (fun _ => ?_)⟩
      refine ⟨_, rfl, _, .ty "int", .type "list", .type "int", false, rfl, .ty _, tyX_seqL hb, kit_ty (by decide +kernel), _, rfl, ite2 (fun c => Bool.noConfusion c) (fun _ => ?_)⟩
      refine ⟨_, rfl, _, .ty "str", .type "list", .type "str", false, rfl, .ty _, tyX_seqL hb, kit_ty (by decide +kernel), _, rfl, ite2 (fun c => Bool.noConfusion c) (fun _ => ?_)⟩
      refine ⟨_, rfl, _, .ty "tuple", .type "list", .type "tuple", false, rfl, .ty _, tyX_seqL hb, kit_ty (by decide +kernel), ?_⟩
      refine ⟨_, rfl, _, .ty "tuple", .type "list", .type "tuple", false, rfl, .ty _, tyX_seqL ha, kit_ty (by decide +kernel), rfl, _, rfl, ?_⟩
      refine ite2 (fun c => Bool.noConfusion (show false = true from c)) (fun _ => ?_)
      refine ⟨_, rfl, _, .ty "list", .type "list", .type "list", true, rfl, .ty _, tyX_seqL hb, kit_ty (by decide +kernel), ?_⟩
      refine ⟨_, rfl, _, .ty "list", .type "list", .type "list", true, rfl, .ty _, tyX_seqL ha, kit_ty (by decide +kernel), rfl, _, rfl, ?_⟩
      refine ite2 (fun c => Bool.noConfusion (show false = true from c)) (fun _ => ?_)
      refine ⟨_, rfl, a, xs, rfl, .inl ha, _, rfl, b, ys, rfl, .inl hb, rfl, _, rfl, ?_⟩
      rw [hlen, decide_eq_true (rfl : V.int (ys.length : Nat) = V.int (ys.length : Nat))]
      refine ite2 (fun c => Bool.noConfusion (show false = true from c)) (fun _ => ?_)
      refine ⟨_, rfl, b, ys, rfl, .inl hb, (ys.length : Nat), rfl, by omega, by omega, ?_⟩
      have en : ((ys.length : Nat) : Int).toNat = ys.length := Int.toNat_natCast _
      rw [en]
      refine for_it (walk_range (lo := 0)) (fun i σ H' => ∃ v, σ = [some (.ref a), some (.ref b), v] ∧ H' = H) ⟨none, rfl, rfl⟩ (fun _ _ _ _ _ => True.intro) ?_ ?_
      · rintro i x σ H1 H1' hi ⟨v, rfl, rfl⟩ ⟨rfl, rfl⟩
        have hx : xs[i]? = some (xs[i]'(by omega)) := List.getElem?_eq_getElem (by omega)
        have hy : ys[i]? = some ys[i] := List.getElem?_eq_getElem hi
        refine ⟨_, rfl, _, rfl, (.inl ⟨a, xs, _, _, rfl, rfl, ha, at_of (j := i) (by omega) hx, _, rfl, _, rfl, (.inl ⟨b, ys, _, _, rfl, rfl, hb, at_of (j := i) (by omega) hy, _, _, rfl, m, by omega, e i _ _ hx hy, ?_⟩)⟩)⟩
        refine ⟨_, rfl, ite2 (fun c => Bool.noConfusion (show false = true from c)) (fun _ => ⟨_, rfl, rfl⟩)⟩
      · rintro σ H1 ⟨v, rfl, rfl⟩
        exact k
theorem ok_alike0 (D : Df K mg "_law_alike" s__law_alike P__law_alike) : Fn P w K mg base CX0 1 "_law_alike" P__law_alike (spAlike K 0) := by
  obtain ⟨f, fd, F, hm, hb⟩ := D.ex
  refine ⟨f, fd, ⟨fun vs H Q E h => ?_, fun A outer s H args us vs Q E _ _ _ _ h => ?_⟩, hm, F.kp, hb⟩
  · obtain ⟨x, y, _, m, h, _⟩ := h
    exact absurd h (Nat.not_lt_zero _)
  · obtain ⟨x, y, _, m, h, _⟩ := h
    exact absurd h (Nat.not_lt_zero _)
theorem ok_alike (T : Txt mg) (T4 : Txt4 mg) (D : Df K mg "_law_alike" s__law_alike P__law_alike) : ∀ n, Fn P w K mg base CX0 (1 + n) "_law_alike" P__law_alike (spAlike K n)
  | 0 => ok_alike0 D
  | n + 1 => ok_alikeS T T4 D (ok_alike T T4 D n)
end
end K3

set_option Elab.async false
set_option linter.all false
set_option maxRecDepth 100000
set_option maxHeartbeats 4000000
namespace K3
open PySem PySem.Spec PyProof.Rows L2
section
variable {P : Program} {w : World} {K : PySem.W.Frag} {mg : Str → Option Value} {base : Heap}
abbrev s__law_per : Stmt := top 63
abbrev N__law_per : List Str := ["_law_base", "_law_many", "_law_worth"]
abbrev P__law_per : List Str := ["_law_base"]
theorem sc__law_per : FnScope N__law_per P__law_per (defScope s__law_per) := ⟨rfl, rfl, rfl, by decide +kernel, rfl, by decide +kernel, by decide +kernel⟩
def worth : L2.St → Nat
  | [_, _, some (.int r)] => (10001 - r).toNat
  | _ => 0
theorem ok_lper (T : Txt mg) (D : Df K mg "_law_per" s__law_per P__law_per) : Fn P w K mg base CX0 1 "_law_per" P__law_per spPer := by
  refine D.ok sc__law_per (fun vs H Q E h => ?_) (fun f cdv A outer s H vs Q E hr h => ?_)
  · obtain ⟨b, rfl, _⟩ := h
    rfl
  · obtain ⟨b, rfl, h2, h1, k⟩ := h
    have nd := sc__law_per.nd
    refine ⟨_, (pss_cons (ps_set (i := 1) nd rfl (by first | exact Or.inl rfl | exact Or.inr rfl) pe_int)
  (pss_cons (ps_set (i := 2) nd rfl (by first | exact Or.inl rfl | exact Or.inr rfl) pe_int)
  (pss_cons (ps_while PassesOwn.never (pt_cmpR op_le (pe_op op_mul (pv 2) (pv 0)) pe_int (nomark _))
  (pss_cons (ps_set (i := 2) nd rfl (by first | exact Or.inl rfl | exact Or.inr rfl) (pe_op op_mul (pv 2) (pv 0)))
  (pss_one (ps_set (i := 1) nd rfl (by first | exact Or.inl rfl | exact Or.inr rfl) (pe_op op_add (pv 1) pe_int)))))
  (pss_one (ps_ret (pv 1)))))), ?_⟩
    refine while_by (fun σ H' => ∃ (m : Nat) (r : Int) (f : Nat), σ = [some (.int b), some (.int m), some (.int r)] ∧ PerAt b m (r * b) f ∧ 0 < r ∧ H' = H) (fun σ _ => worth σ) ⟨0, 1, 14, rfl, by rw [Int.one_mul]; exact .start h2, by decide, rfl⟩ ?_ (fun σ H Q Q' im h => ?_)
    · rintro σ H' ⟨m, r, f, rfl, A, r0, rfl⟩
      refine ⟨_, rfl, _, rfl, _, _, rfl, rfl, .inr (by constructor <;> omega), _, _, rfl, rfl, _, rfl, ?_⟩
      refine ite2 (fun c => ?_) (fun c => ?_)
      · have c' : r * b ≤ 10000 := of_decide_eq_true c
        obtain ⟨f', A'⟩ := A.turn h2 c'
        have p3 : r * 2 ≤ r * b := Int.mul_le_mul_of_nonneg_left h2 (by omega)
        refine ⟨_, rfl, _, rfl, _, _, rfl, rfl, .inr (by constructor <;> omega), _, rfl, _, _, rfl, rfl, ?_⟩
        refine ⟨⟨m + 1, r * b, f', rfl, A', by omega, rfl⟩, ?_⟩
        show (10001 - r * b).toNat < (10001 - r).toNat
        omega
      · have c' : ¬ r * b ≤ 10000 := fun z => c (decide_eq_true z)
        refine ⟨_, rfl, ?_⟩
        rw [A.done c'] at k
        exact k
    · obtain ⟨v, e, v2, e2, i, j, e3, e4, bd, i2, j2, e5, e6, kk, e7, q⟩ := h
      exact ⟨v, e, v2, e2, i, j, e3, e4, bd, i2, j2, e5, e6, kk, e7, im _ _ q⟩
abbrev s__law_packed : Stmt := top 64
abbrev N__law_packed : List Str := ["_law_base", "_law_values_here", "_law_per_here", "_law_found", "_law_begin", "_law_cell", "_law_value"]
abbrev P__law_packed : List Str := ["_law_base", "_law_values_here"]
theorem sc__law_packed : FnScope N__law_packed P__law_packed (defScope s__law_packed) := ⟨rfl, rfl, rfl, by decide +kernel, rfl, by decide +kernel, by decide +kernel⟩
def spLpk (K : PySem.W.Frag) : Sp := fun vs H Q _ => ∃ (b : Int) (a : Addr) (ns : List Int), vs = [.int b, .ref a] ∧ SqL K H a (ns.map V.int) ∧ 2 ≤ b ∧ b ≤ 10000 ∧ ns.length ≤ 1000 ∧
  ∀ (H' : Hp) (p : Addr), Same H H' → H p = none → H' p = some (.tup ((K3.packed b ns).map V.int)) → Q (.ref p) H'
theorem ok_lpacked (T : Txt mg) (D : Df K mg "_law_packed" s__law_packed P__law_packed) (G__law_per : Fn P w K mg base CX0 1 "_law_per" P__law_per spPer) : Fn P w K mg base CX0 2 "_law_packed" P__law_packed (spLpk K) := by
  refine D.ok sc__law_packed (fun vs H Q E h => ?_) (fun f cdv A outer s H vs Q E hr h => ?_)
  · obtain ⟨b, a, ns, rfl, _⟩ := h
    rfl
  · obtain ⟨b, a, ns, rfl, hS, h2, h1, hl, k⟩ := h
    have nd := sc__law_packed.nd
    refine ⟨_, (pss_cons (ps_set (i := 2) nd rfl (by first | exact Or.inl rfl | exact Or.inr rfl) (pe_c G__law_per (hr.mono (by decide)) pass0 (pa_cons (pv 0) pa_nil)))
  (pss_cons (ps_set (i := 3) nd rfl (by first | exact Or.inl rfl | exact Or.inr rfl) (pe_lst pa_nil))
  (pss_cons (ps_for PassesOwn.never rfl (pi_range3 (by rfl) T.b_range (pa_cons pe_int (pa_cons (pe_callB call_len_seq (by rfl) T.b_len (by decide +kernel) (pa_cons (pv 1) pa_nil)) (pa_cons (pv 2) pa_nil)))) (pg_name (i := 4) nd rfl (by first | exact Or.inl rfl | exact Or.inr rfl))
  (pss_cons (ps_set (i := 5) nd rfl (by first | exact Or.inl rfl | exact Or.inr rfl) pe_int)
  (pss_cons (ps_for PassesOwn.never rfl (pi_list (pe_revL (pe_slice sl_list (pv 1) (po_some (pv 4)) (po_some (pe_op op_add (pv 4) (pv 2)))))) (pg_name (i := 6) nd rfl (by first | exact Or.inl rfl | exact Or.inr rfl))
  (pss_one (ps_set (i := 5) nd rfl (by first | exact Or.inl rfl | exact Or.inr rfl) (pe_op op_add (pe_op op_mul (pv 5) (pv 0)) (pv 6)))))
  (pss_one (ps_expr (pe_bm PySem.F.plainAttrs_list PySem.F.slot_list_append PySem.F.type_list_append mt_append (pv 3) (pa_cons (pv 5) pa_nil)))))))
  (pss_one (ps_ret (pe_callTy call_tuple_of (by rfl) T.b_tuple (by decide +kernel) (pa_cons (pv 3) pa_nil))))))), ?_⟩
    have hk := perC_pos h1
    have hkl := perC_le b
    refine ⟨_, rfl, b, rfl, h2, h1, ?_⟩
    refine ⟨(by show 0 ≤ sizeLine; decide), fun p np => ?_⟩
    have sp := Same.upd (o := .lst []) np
    refine ⟨_, rfl, a, _, rfl, .inl (sp.seq hS), _, rfl, _, _, _, cells (perC b) ns.length, rfl, ?_, ?_⟩
    · rw [List.length_map]
      exact rgC_up hk (by omega) (by omega)
    refine for_it walk_rangeC (fun i σ H' => ∃ v4 v5 v6, σ = [some (.int b), some (.ref a), some (.int (perC b : Nat)), some (.ref p), v4, v5, v6] ∧ Same H H' ∧ H' p = some (.lst (((List.range i).map (fun i => val b ((ns.drop (i * perC b)).take (perC b)))).map V.int))) ⟨none, none, none, rfl, sp, upd_same⟩ (fun _ _ _ _ _ => True.intro) ?_ ?_
    · rintro i x σ H2 H3 hi ⟨v4, v5, v6, rfl, s2, hD⟩ ⟨rfl, rfl⟩
      have hc := (cells_lt hk).mp hi
      have e0 : (0 : Int) + (i : Int) * (perC b : Int) = ((i * perC b : Nat) : Int) := by rw [Int.natCast_mul]; omega
      refine ⟨_, rfl, _, rfl, _, rfl, _, rfl, _, rfl, _, _, rfl, rfl, _, rfl, a, _, rfl, s2.seq hS, fun q nq => ?_⟩
      rw [e0, cutV_part, ← List.map_drop, ← List.map_take]
      generalize hsg : (ns.drop (i * perC b)).take (perC b) = seg
      refine ⟨q, seg.map V.int, rfl, SqL.of upd_same, fun q2 nq2 => ?_⟩
      have s3 := ((Same.upd (o := .lst (seg.map V.int)) nq).upd' (o := .lst (seg.map V.int).reverse) nq2)
      refine ⟨q2, rfl, ⟨_, SqL.of upd_same⟩, for_it (walk_list (xs := (seg.map V.int).reverse)) (fun j σ H' => ∃ v6, σ = [some (.int b), some (.ref a), some (.int (perC b : Nat)), some (.ref p), some (.int (0 + (i : Int) * (perC b : Int)))  , some (.int (val b (seg.drop (seg.length - j)))), v6] ∧ H' = upd (upd H3 q (.lst (seg.map V.int))) q2 (.lst (seg.map V.int).reverse)) ⟨v6, by rw [Nat.sub_zero, List.drop_length]; rfl, rfl⟩ (fun _ _ _ _ ⟨_, _, e⟩ => by rw [e]; exact SqL.of upd_same) ?_ ?_⟩
      · rintro j x σ H4 H4' hj ⟨v6, rfl, rfl⟩ ⟨rfl, e⟩
        rw [List.length_reverse, List.length_map] at hj
        rw [← List.map_reverse] at e
        obtain ⟨z, hz, rfl⟩ := map_at e
        rw [List.getElem?_reverse hj] at hz
        refine ⟨_, rfl, _, rfl, _, _, rfl, rfl, .inr (by constructor <;> omega), _, rfl, _, _, rfl, rfl, ?_⟩
        exact ⟨_, by rw [val_step b hj hz]; rfl, rfl⟩
      · rintro σ H4 ⟨v6, rfl, rfl⟩
        rw [List.length_reverse, List.length_map, Nat.sub_self]
        refine ⟨_, rfl, .inl ⟨rfl, _, SqL.of (s3 _ _ hD)⟩, _, rfl, _, _, _, rfl, rfl, s3 _ _ hD, ?_, ?_⟩
        · rw [List.length_map, List.length_map, List.length_range, sizeLine_eq]
          have := cells_le (n := ns.length) hk
          omega
        · refine ⟨_, _, _, rfl, Same.put (s2.trans s3) np, ?_⟩
          rw [upd_same, List.range_succ, List.map_append, List.map_append, ← hsg]
          rfl
    · rintro σ H2 ⟨v4, v5, v6, rfl, s2, hD⟩
      refine ⟨_, rfl, p, _, rfl, .inl ⟨SqL.of hD, fun l nl => ?_⟩⟩
      rw [packed_eq h1]
      exact k _ _ (s2.upd' nl) (s2.free nl) upd_same
end
end K3

set_option Elab.async false
set_option linter.all false
set_option maxRecDepth 100000
set_option maxHeartbeats 4000000
namespace K3
open PySem PySem.Spec PyProof.Rows L2
section
variable {P : Program} {w : World} {K : PySem.W.Frag} {mg : Str → Option Value} {base : Heap}
abbrev s__law_above : Stmt := top 65
abbrev N__law_above : List Str := ["_law_values_here", "_law_low", "_law_span", "_law_value"]
abbrev P__law_above : List Str := ["_law_values_here"]
theorem sc__law_above : FnScope N__law_above P__law_above (defScope s__law_above) := ⟨rfl, rfl, rfl, by decide +kernel, rfl, by decide +kernel, by decide +kernel⟩
def spAbv (K : PySem.W.Frag) : Sp := fun vs H Q _ => ∃ (a : Addr) (ns : List Int), vs = [.ref a] ∧ SqL K H a (ns.map V.int) ∧ ns ≠ [] ∧ ns.length ≤ 1000 ∧
  (9999 < lmax ns - lmin ns → ∀ H', Same H H' → Q .non H') ∧ (¬ 9999 < lmax ns - lmin ns → ∀ (H' : Hp) (p t : Addr), Same H H' → H' p = some (.tup [.int (lmin ns), .int (lmax ns - lmin ns), .ref t]) → SqT K H' t ((packedFrom (lmin ns) (lmax ns - lmin ns) ns).map V.int) → Q (.ref p) H')
theorem ok_labove (T : Txt mg) (D : Df K mg "_law_above" s__law_above P__law_above) (G__law_packed : Fn P w K mg base CX0 2 "_law_packed" P__law_packed (spLpk K)) : Fn P w K mg base CX0 3 "_law_above" P__law_above (spAbv K) := by
  refine D.ok sc__law_above (fun vs H Q E h => ?_) (fun f cdv A outer s H vs Q E hr h => ?_)
  · obtain ⟨a, ns, rfl, _⟩ := h
    rfl
  · obtain ⟨a, ns, rfl, hS, hne, hl, k0, k⟩ := h
    have nd := sc__law_above.nd
    refine ⟨_, (pss_cons (ps_asg (pe_tup (pa_cons (pe_callB (cr_min rfl) (by rfl) T.b_min (by decide +kernel) (pa_cons (pv 0) pa_nil)) (pa_cons (pe_op op_sub (pe_callB (cr_max rfl) (by rfl) T.b_max (by decide +kernel) (pa_cons (pv 0) pa_nil)) (pe_callB (cr_min rfl) (by rfl) T.b_min (by decide +kernel) (pa_cons (pv 0) pa_nil))) pa_nil))) (pg_tup (by rfl) (pgs_cons (pg_name (i := 1) nd rfl (by first | exact Or.inl rfl | exact Or.inr rfl)) (pgs_cons (pg_name (i := 2) nd rfl (by first | exact Or.inl rfl | exact Or.inr rfl)) pgs_nil))))
  (pss_cons (ps_if (pt_cmpR op_gt (pv 2) pe_int (nomark _))
  (pss_one (ps_ret pe_non))
  pss_nil)
  (pss_one (ps_ret (pe_tup (pa_cons (pv 1) (pa_cons (pv 2) (pa_cons (pe_ifExp (pt_cmpR op_eq (pv 2) pe_int (nomark _)) (pe_tup pa_nil) (pe_c G__law_packed (hr.mono (by decide)) pass0 (pa_cons (pe_op op_add (pv 2) pe_int) (pa_cons (pe_lc (own := [("_law_value", 3)]) (g := gName 3) (by rfl) nd  (pi_list (pv 0)) (blkOk_by (own := [("_law_value", 3)]) (N := N__law_above) (sc := defScope s__law_above) (by decide +kernel)) (fun _ _ _ _ _ => pg_name (i := 3) nd rfl (Or.inl rfl)) (fun _ _ _ _ _ => pts_nil) (fun _ _ _ _ _ => (pe_op op_sub (pv 3) (pv 1)))) pa_nil)))) pa_nil)))))))), ?_⟩
    have pos := List.length_pos_iff.mpr hne
    refine ⟨_, rfl, a, ns, rfl, hS, pos, fun m1 m2 m3 => ?_⟩
    obtain rfl := lmin_eq m2 m3
    refine ⟨_, rfl, a, ns, rfl, hS, pos, fun g1 g2 g3 => ?_⟩
    obtain rfl := lmax_eq g2 g3
    refine ⟨_, rfl, a, ns, rfl, hS, pos, fun m4 m5 m6 => ?_⟩
    obtain rfl := lmin_eq m5 m6
    refine ⟨_, _, rfl, rfl, (by show 2 ≤ sizeLine; decide), fun q nq => ?_⟩
    have sq := Same.upd (o := .tup [.int (lmin ns), .int (lmax ns - lmin ns)]) nq
    refine ⟨q, _, rfl, SqT.of upd_same, rfl, _, _, rfl, _, _, rfl, rfl, ?_⟩
    refine ⟨_, rfl, _, _, rfl, rfl, _, rfl, ?_⟩
    refine ite2 (fun c => k0 (of_decide_eq_true c) _ sq) (fun c => ?_)
    have c0 : ¬ 9999 < lmax ns - lmin ns := fun z => c (decide_eq_true z)
    have sp := span_nn hne
    refine ⟨_, rfl, _, rfl, _, rfl, rfl, _, rfl, ?_⟩
    refine ite2 (fun c => ?_) (fun c => ?_)
    · have c' : lmax ns - lmin ns = 0 := V.int.inj (of_decide_eq_true c)
      refine ⟨Nat.zero_le _, fun t nt => ⟨(by show 3 ≤ sizeLine; decide), fun p np => ?_⟩⟩
      refine k c0 _ p t ((sq.upd' nt).upd' np) upd_same ((Same.upd np).seqT ?_)
      unfold packedFrom
      rw [if_pos c']
      exact SqT.of upd_same
    · have c' : ¬ lmax ns - lmin ns = 0 := fun z => c (decide_eq_true (congrArg V.int z))
      refine ⟨_, rfl, _, _, rfl, rfl, _, rfl, a, rfl, ⟨_, sq.seq hS⟩, fun D0 nD => ?_⟩
      refine lc_all walk_list (fun i H' => Same H H' ∧ H' D0 = some (.lst (((ns.take i).map (· - lmin ns)).map V.int))) ⟨sq.upd' nD, upd_same⟩ (fun i H' _ ⟨s5, _⟩ => s5.seq hS) ?_ ?_
      · rintro i x H2 H3 hi ⟨s2, hD⟩ ⟨rfl, e⟩
        rw [List.length_map] at hi
        obtain ⟨z, hz, rfl⟩ := map_at e
        refine ⟨_, rfl, _, rfl, _, _, rfl, rfl, _, hD, ?_, Same.put s2 (sq.free nD), ?_⟩
        · rw [List.length_map, List.length_map, List.length_take, sizeLine_eq]
          omega
        · rw [upd_same, take_more hz, List.map_append, List.map_append]
          rfl
      · rintro H2 ⟨s2, hD⟩
        rw [List.length_map, List.take_length] at hD
        refine ⟨lmax ns - lmin ns + 1, D0, ns.map (· - lmin ns), rfl, SqL.of hD, by omega, by omega, by rw [List.length_map]; omega, fun H3 t s3 nt ht => ⟨(by show 3 ≤ sizeLine; decide), fun p np => ?_⟩⟩
        refine k c0 _ p t ((s2.trans s3).upd' np) upd_same ((Same.upd np).seqT ?_)
        unfold packedFrom
        rw [if_neg c']
        exact SqT.of ht
end
end K3

set_option Elab.async false
set_option linter.all false
set_option maxRecDepth 100000
set_option maxHeartbeats 4000000
namespace K3
open PySem PySem.Spec PyProof.Rows L2
theorem mt_lixK {X : Cx} {K : PySem.W.Frag} (e : X.K = K) : MtR X "list.index" (rIndex K) := by
  subst e
  exact mt_index
/-- a comprehension of one name with an if -/
theorem lc_if {J : It} {n : Nat} {G : Hp → Prop} {Y : Nat → Hp → V → Hp → Prop} (w : Walk J n G Y) {j : Nat} {tt : TT} {te : TE} {σ : L2.St} {H1 : Hp} {D : Addr} {Qd : Hp → Prop} (Pv : Nat → Hp → Prop) (h0 : Pv 0 (L2.upd H1 D (.lst []))) (hG : ∀ i H, i ≤ n → Pv i H → G H)
    (hs : ∀ i x H H', i < n → Pv i H → Y i H x H' → tt (σ.set j (some x)) H' fun b H3 => if b = true then te (σ.set j (some x)) H3 fun y H4 => ∃ acc, H4 D = some (.lst acc) ∧ acc.length < sizeLine ∧ Pv (i + 1) (L2.upd H4 D (.lst (acc ++ [y]))) else Pv (i + 1) H3) (hd : ∀ H, Pv n H → Qd H) :
    ∃ W : Nat → Nat → Hp → Prop, (∃ m, W 0 m (L2.upd H1 D (.lst []))) ∧ ∀ i m H, W i m H →
      (J.stop i H ∧ Qd H) ∨ (J.go i H ∧ ∃ Nx : Hp → Prop, (∀ H', Nx H' → ∃ m', m' < m ∧ W (i + 1) m' H') ∧ ∀ x H', J.yld i H x H' → gName j x (wipe σ [j]) H' fun σ2 H2 => wipe σ2 [j] = wipe σ [j] ∧ tt σ2 H2 fun b H3 =>
        if b = true then te σ2 H3 fun y H4 => ∃ acc, H4 D = some (.lst acc) ∧ acc.length < sizeLine ∧ Nx (L2.upd H4 D (.lst (acc ++ [y]))) else Nx H3) := by
  refine lc_it w Pv h0 hG (fun i x H H' hi p y => ?_) hd
  have q := hs i x H H' hi p y
  have e : (wipe σ [j]).set j (some x) = σ.set j (some x) := by
    show (σ.set j none).set j (some x) = σ.set j (some x)
    rw [List.set_set]
  refine ⟨?_, ?_⟩
  · show ((σ.set j none).set j (some x)).set j none = σ.set j none
    rw [List.set_set, List.set_set]
  · show tt ((wipe σ [j]).set j (some x)) H' (fun b H3 => if b = true then te ((wipe σ [j]).set j (some x)) H3 (fun y H4 => ∃ acc, H4 D = some (.lst acc) ∧ acc.length < sizeLine ∧ Pv (i + 1) (L2.upd H4 D (.lst (acc ++ [y])))) else Pv (i + 1) H3)
    rw [e]
    exact q
/-- those that aren't the first -/
def unlikes (ns : List Int) : List Int := ns.filter fun v => !decide (V.int v = V.int (ns.headD 0))
theorem unlikes_nil {ns : List Int} (h : ns ≠ []) : unlikes ns = [] ↔ ¬ lmin ns < lmax ns := by
  obtain ⟨a, b⟩ := lmin_ok h
  obtain ⟨c, d⟩ := lmax_ok h
  have hh : ns.headD 0 ∈ ns := by
    cases ns with
    | nil => exact absurd rfl h
    | cons n r => exact List.mem_cons_self ..
  unfold unlikes
  rw [List.filter_eq_nil_iff]
  constructor
  · intro q lt
    have q1 : lmin ns = ns.headD 0 := by
      have := q _ a
      by_cases e : lmin ns = ns.headD 0
      · exact e
      · exact absurd (by rw [decide_eq_false (fun z => e (V.int.inj z))]; rfl) this
    have q2 : lmax ns = ns.headD 0 := by
      have := q _ c
      by_cases e : lmax ns = ns.headD 0
      · exact e
      · exact absurd (by rw [decide_eq_false (fun z => e (V.int.inj z))]; rfl) this
    omega
  · intro n v hv
    have h1 := b v hv
    have h2 := d v hv
    have h3 := b _ hh
    have h4 := d _ hh
    have e : v = ns.headD 0 := by omega
    simp [e]
theorem usort_one {ns : List Int} (h : ns ≠ []) : (usort ns).length < 2 ↔ ¬ lmin ns < lmax ns := by
  have nd : (usort ns).Nodup := (usort_rises ns).imp fun {a b} l e => by omega
  have q := one_iff (ks := usort ns) h nd fun k => mem_usort k ns
  have p := List.length_pos_iff.mpr (usort_ne h)
  rw [← q]
  omega
def tyLs (K : PySem.W.Frag) (x : V) (H : Hp) : Prop := tyV K "list" x H
theorem ty_ls {X : Cx} {K : PySem.W.Frag} (e : X.K = K) : TyOk X "list" (tyLs K) := by
  subst e
  intro pins σ H s x v I r h
  exact tyV_is I r h
section
variable {P : Program} {w : World} {K : PySem.W.Frag} {mg : Str → Option Value} {base : Heap}
abbrev s__law_form : Stmt := top 66
abbrev N__law_form : List Str := ["_law_name", "_law_values_here", "_law_many", "_law_alike_here", "_law_value", "_law_unlike", "_law_places", "_law_above_here", "_law_k"]
abbrev P__law_form : List Str := ["_law_name", "_law_values_here"]
theorem sc__law_form : FnScope N__law_form P__law_form (defScope s__law_form) := ⟨rfl, rfl, rfl, by decide +kernel, rfl, by decide +kernel, by decide +kernel⟩
def spLf (K : PySem.W.Frag) : Sp := fun vs H Q _ => ∃ (i : Nat) (a : Addr) (ns : List Int), vs = [.str (nmOf i), .ref a] ∧ i < 5 ∧ SqL K H a (ns.map V.int) ∧ Good ns ∧
  (K3.mk i ns = none → ∀ H', Same H H' → Q .non H') ∧ (∀ F, K3.mk i ns = some F → ∀ (H' : Hp) (p : Addr), Same H H' → IsF K H' p F → Q (.ref p) H')
theorem ok_lform (T : Txt mg) (D : Df K mg "_law_form" s__law_form P__law_form) (G__law_packed : Fn P w K mg base CX0 2 "_law_packed" P__law_packed (spLpk K)) (G__law_above : Fn P w K mg base CX0 3 "_law_above" P__law_above (spAbv K)) : Fn P w K mg base CX0 4 "_law_form" P__law_form (spLf K) := by
  refine D.ok sc__law_form (fun vs H Q E h => ?_) (fun f cdv A outer s H vs Q E hr h => ?_)
  · obtain ⟨i, a, ns, rfl, _⟩ := h
    rfl
  · obtain ⟨i, a, ns, rfl, hi, hS, G, k0, k⟩ := h
    have nd := sc__law_form.nd
    refine ⟨_, (pss_cons (ps_set (i := 2) nd rfl (by first | exact Or.inl rfl | exact Or.inr rfl) (pe_callB call_len_seq (by rfl) T.b_len (by decide +kernel) (pa_cons (pv 1) pa_nil)))
  (pss_cons (ps_set (i := 3) nd rfl (by first | exact Or.inl rfl | exact Or.inr rfl) (pe_cmpR (op_eqIs hr.units) (pe_lc (own := [("_law_value", 4)]) (g := gName 4) (by rfl) nd  (pi_list (pv 1)) (blkOk_by (own := [("_law_value", 4)]) (N := N__law_form) (sc := defScope s__law_form) (by decide +kernel)) (fun _ _ _ _ _ => pg_name (i := 4) nd rfl (Or.inl rfl)) (fun _ _ _ _ _ => pts_one (pt_cmpR op_ne (pv 4) (pe_ix (ix_listK (K := K) rfl) (pv 1) pe_int (fun _ _ => rfl)) (nomark _))) (fun _ _ _ _ _ => (pv 4))) (pe_lst pa_nil) (nomark _)))
  (pss_cons (ps_if (pt_cmpR op_eq (pv 0) pe_str (nomark _))
  (pss_one (ps_ret (pe_tup (pa_cons pe_str (pa_cons (pe_callTy call_tuple_of (by rfl) T.b_tuple (by decide +kernel) (pa_cons (pv 1) pa_nil)) pa_nil)))))
  pss_nil)
  (pss_cons (ps_if (pt_cmpR op_eq (pv 0) pe_str (nomark _))
  (pss_one (ps_ret (pe_ifExp (pt_val (pv 3)) (pe_tup (pa_cons pe_str (pa_cons (pv 2) (pa_cons (pe_ix (ix_listK (K := K) rfl) (pv 1) pe_int (fun _ _ => rfl)) pa_nil)))) pe_non)))
  pss_nil)
  (pss_cons (ps_if (pt_cmpR op_eq (pv 0) pe_str (nomark _))
  (pss_cons (ps_if (pt_val (pv 3))
  (pss_one (ps_ret pe_non))
  pss_nil)
  (pss_cons (ps_set (i := 5) nd rfl (by first | exact Or.inl rfl | exact Or.inr rfl) (pe_callB (cr_sortedSet rfl) (by rfl) T.b_sorted (by decide +kernel) (pa_cons (pe_callTy (cr_setL rfl) (by rfl) T.b_set (by decide +kernel) (pa_cons (pv 1) pa_nil)) pa_nil)))
  (pss_cons (ps_setLc (i := 6) (own := [("_law_value", 4)]) (g := gName 4) (by rfl) nd rfl rfl (sw_true rfl rfl rfl (by decide +kernel)) (pi_list (pv 1)) (blkOk_by (own := [("_law_value", 4)]) (N := N__law_form) (sc := defScope s__law_form) (by decide +kernel)) (fun _ _ _ _ _ => pg_name (i := 4) nd rfl (Or.inl rfl)) (fun _ _ _ _ _ => pts_nil) (fun _ _ _ _ _ => (pe_mG (ty_ls (K := K) rfl) PySem.F.plainAttrs_list PySem.F.slot_list_index PySem.F.type_list_index (mt_lixK (K := K) rfl) (pv 5) (pa_cons (pv 4) pa_nil))))
  (pss_one (ps_ret (pe_tup (pa_cons pe_str (pa_cons (pv 2) (pa_cons (pe_callTy call_tuple_of (by rfl) T.b_tuple (by decide +kernel) (pa_cons (pv 5) pa_nil)) (pa_cons (pe_c G__law_packed (hr.mono (by decide)) pass0 (pa_cons (pe_callB call_len_seq (by rfl) T.b_len (by decide +kernel) (pa_cons (pv 5) pa_nil)) (pa_cons (pv 6) pa_nil))) pa_nil))))))))))
  pss_nil)
  (pss_cons (ps_if (pt_cmpR op_eq (pv 0) pe_str (nomark _))
  (pss_cons (ps_set (i := 7) nd rfl (by first | exact Or.inl rfl | exact Or.inr rfl) (pe_c G__law_above (hr.mono (by decide)) pass0 (pa_cons (pv 1) pa_nil)))
  (pss_one (ps_ret (pe_ifExp (PW.pt (pw_or (pt_val (pv 3)) (pw_or1 (pt_cmpR op_isN (pv 7) pe_non (nomark _))))) pe_non (pe_op op_catT (pe_tup (pa_cons pe_str (pa_cons (pv 2) pa_nil))) (pv 7))))))
  pss_nil)
  (pss_cons (ps_if (pt_cmpR op_lt (pv 2) pe_int (nomark _))
  (pss_one (ps_ret pe_non))
  pss_nil)
  (pss_cons (ps_set (i := 7) nd rfl (by first | exact Or.inl rfl | exact Or.inr rfl) (pe_c G__law_above (hr.mono (by decide)) pass0 (pa_cons (pe_lc (own := [("_law_k", 8)]) (g := gName 8) (by rfl) nd  (pi_range2 (by rfl) T.b_range (pa_cons pe_int (pa_cons (pv 2) pa_nil))) (blkOk_by (own := [("_law_k", 8)]) (N := N__law_form) (sc := defScope s__law_form) (by decide +kernel)) (fun _ _ _ _ _ => pg_name (i := 8) nd rfl (Or.inl rfl)) (fun _ _ _ _ _ => pts_nil) (fun _ _ _ _ _ => (pe_op op_sub (pe_ix (ix_listK (K := K) rfl) (pv 1) (pv 8) (fun _ _ => rfl)) (pe_ix (ix_listK (K := K) rfl) (pv 1) (pe_op op_sub (pv 8) pe_int) (fun _ _ => rfl))))) pa_nil)))
  (pss_one (ps_ret (pe_ifExp (pt_cmpR op_isN (pv 7) pe_non (nomark _)) pe_non (pe_op op_catT (pe_tup (pa_cons pe_str (pa_cons (pv 2) (pa_cons (pe_ix (ix_listK (K := K) rfl) (pv 1) pe_int (fun _ _ => rfl)) pa_nil)))) (pv 7))))))))))))), ?_⟩
    have few := G.few
    have ne := G.ne
    have h0 : (ns.map V.int)[0]? = some (.int (ns.headD 0)) := by
      obtain ⟨n, r, rfl⟩ : ∃ n r, ns = n :: r := List.exists_cons_of_ne_nil ne
      rfl
    have ha0 : atI (ns.map V.int) 0 = some (.int (ns.headD 0)) := at_of (z := 0) (j := 0) rfl h0
    refine ⟨_, rfl, a, _, rfl, .inl hS, ?_⟩
    rw [List.length_map]
    refine ⟨_, rfl, a, rfl, ⟨_, hS⟩, fun D0 nD => ?_⟩
    refine lc_if walk_list (fun m H' => Same H H' ∧ H' D0 = some (.lst (((ns.take m).filter fun v => !decide (V.int v = V.int (ns.headD 0))).map V.int))) ⟨Same.upd nD, upd_same⟩ (fun _ _ _ h => h.1.seq hS) ?_ ?_
    · rintro m x H2 H2' hm ⟨s2, hD⟩ ⟨rfl, e⟩
      obtain ⟨z, hz, rfl⟩ := map_at e
      refine ⟨_, rfl, _, rfl, a, _, 0, .int (ns.headD 0), rfl, rfl, s2.seq hS, ha0, rfl, _, rfl, ?_⟩
      refine ite2 (fun c => ?_) (fun c => ?_)
      · refine ⟨_, rfl, _, hD, ?_, Same.put s2 nD, ?_⟩
        · have := List.length_filter_le (fun v => !decide (V.int v = V.int (ns.headD 0))) (ns.take m)
          rw [List.length_take] at this
          rw [List.length_map, sizeLine_eq]
          omega
        · have ef : List.filter (fun v => !decide (V.int v = V.int (ns.headD 0))) [z] = [z] := by rw [List.filter_cons_of_pos (p := (fun v => !decide (V.int v = V.int (ns.headD 0)))) c, List.filter_nil]
          rw [upd_same, take_more hz, List.filter_append, List.map_append, ef]
          rfl
      · refine ⟨s2, ?_⟩
        have ef : List.filter (fun v => !decide (V.int v = V.int (ns.headD 0))) [z] = [] := by rw [List.filter_cons_of_neg (p := (fun v => !decide (V.int v = V.int (ns.headD 0)))) c, List.filter_nil]
        rw [take_more hz, List.filter_append, ef, List.append_nil]
        exact hD
    rintro H2 ⟨s2, hD⟩
    rw [List.length_map, List.take_length] at hD
    have hD : H2 D0 = some (.lst ((unlikes ns).map V.int)) := hD
    refine ⟨(by show 0 ≤ sizeLine; decide), fun q nq => ?_⟩
    have sq := Same.upd (o := .lst []) nq
    refine ⟨D0, q, unlikes ns, [], rfl, rfl, SqL.of (sq _ _ hD), SqL.of upd_same, ?_⟩
    have s3 := s2.trans sq
    generalize upd H2 q (.lst []) = H3 at s3 ⊢
    have al := unlikes_nil ne
    refine ⟨_, rfl, rfl, _, rfl, ?_⟩
    refine ite2 (fun c => ?_) (fun c0 => ?_)
    · obtain rfl : i = 0 := nm_inj _ hi _ (by decide) (V.str.inj (of_decide_eq_true c))
      refine ⟨_, rfl, a, _, rfl, .inl ⟨s3.seq hS, fun l nl => ⟨(by show 2 ≤ sizeLine; decide), fun p np => ?_⟩⟩⟩
      exact k _ rfl _ p ((s3.upd' nl).upd' np) ⟨l, SqT.of upd_same, (Same.upd np).seqT (SqT.of upd_same)⟩
    refine ⟨_, rfl, rfl, _, rfl, ?_⟩
    refine ite2 (fun c => ?_) (fun c1 => ?_)
    · obtain rfl : i = 1 := nm_inj _ hi _ (by decide) (V.str.inj (of_decide_eq_true c))
      refine ⟨_, rfl, _, rfl, ?_⟩
      refine ite2 (fun c => ?_) (fun c => ?_)
      · have c' := al.mp (of_decide_eq_true c)
        refine ⟨_, rfl, _, rfl, a, _, 0, _, rfl, rfl, s3.seq hS, ha0, (by show 3 ≤ sizeLine; decide), fun p np => ?_⟩
        exact k (.one ns.length (ns.headD 0)) (if_neg c') _ p (s3.upd' np) (SqT.of upd_same)
      · have c' : lmin ns < lmax ns := by
          by_cases h : lmin ns < lmax ns
          · exact h
          · exact absurd (decide_eq_true (al.mpr h)) c
        exact k0 (if_pos c') _ s3
    refine ⟨_, rfl, rfl, _, rfl, ?_⟩
    refine ite2 (fun c => ?_) (fun c2 => ?_)
    · obtain rfl : i = 2 := nm_inj _ hi _ (by decide) (V.str.inj (of_decide_eq_true c))
      refine ⟨_, rfl, _, rfl, ?_⟩
      refine ite2 (fun c => ?_) (fun c => ?_)
      · exact k0 (if_pos ((usort_one ne).mpr (al.mp (of_decide_eq_true c)))) _ s3
      have c0' : ¬ (usort ns).length < 2 := fun z => c (decide_eq_true (al.mpr ((usort_one ne).mp z)))
      refine ⟨_, rfl, a, ns, rfl, s3.seq hS, by omega, fun p n ks np hn nk mk hk => ?_⟩
      refine ⟨p, _, n, rfl, upd_same, by omega, fun u t rises mem hu nt => ?_⟩
      have eu : u = usort ns := usort_eq rises fun k => (mem k).trans decide_eq_true_iff
      subst eu
      have s5 := (s3.upd' np).upd' (o := .lst ((usort ns).map V.int)) nt
      have hu' := usort_length ns
      refine ⟨_, rfl, a, rfl, ⟨_, s5.seq hS⟩, fun D1 nD1 => ?_⟩
      refine lc_all walk_list (fun m H' => Same H H' ∧ H' t = some (.lst ((usort ns).map V.int)) ∧ H' D1 = some (.lst (((ns.take m).map fun v => (idx (usort ns) v : Int)).map V.int))) ⟨s5.upd' nD1, Same.upd nD1 _ _ upd_same, upd_same⟩ (fun _ _ _ h => h.1.seq hS) ?_ ?_
      · rintro m x H6 H6' hm ⟨s6, ht, hD1⟩ ⟨rfl, e⟩
        obtain ⟨z, hz, rfl⟩ := map_at e
        have zm := (mem_usort z ns).mpr (List.mem_of_getElem? hz)
        refine ⟨_, rfl, .inl ⟨rfl, _, SqL.of ht⟩, _, rfl, t, (usort ns).map V.int, .int z, idx (usort ns) z, .int z, rfl, rfl, SqL.of ht, rfl, flat_ints _, by rw [List.getElem?_map, idx_get zm]; rfl, beq_self_eq_true z, fun m' z' hm' hz' => ?_, _, hD1, ?_, Same.put s6 (s5.free nD1), ?_, ?_⟩
        · obtain ⟨y, hy, rfl⟩ := map_at hz'
          show (y == z) = false
          exact beq_eq_false_iff_ne.mpr fun e => idx_first hm' (by rw [hy, e])
        · rw [List.length_map, List.length_map, List.length_take, sizeLine_eq]
          omega
        · rw [upd_ne (ne_of_none (Same.refl _ _ _ (show (upd (upd H3 p _) t _) t = some _ from upd_same)) nD1)]
          exact ht
        · rw [upd_same, take_more hz, List.map_append, List.map_append]
          rfl
      rintro H6 ⟨s6, ht, hD1⟩
      rw [List.length_map, List.take_length] at hD1
      refine ⟨_, rfl, _, rfl, t, _, rfl, .inl ⟨SqL.of ht, fun l nl => ?_⟩⟩
      have sl := Same.upd (o := .tup ((usort ns).map V.int)) nl
      refine ⟨_, rfl, t, _, rfl, .inl (SqL.of (sl _ _ ht)), _, rfl, ((usort ns).length : Nat), D1, ns.map (fun v => (idx (usort ns) v : Int)), (by rw [List.length_map]; rfl), SqL.of (sl _ _ hD1), by omega, by omega, by rw [List.length_map]; omega, fun H7 r s7 nr hr7 => ⟨(by show 4 ≤ sizeLine; decide), fun p2 np2 => ?_⟩⟩
      refine k _ (if_neg c0') _ p2 (((s6.trans sl).trans s7).upd' np2) ⟨l, r, SqT.of upd_same, (Same.upd np2).seqT (s7.seqT (SqT.of upd_same)), (Same.upd np2).seqT (SqT.of hr7)⟩
    refine ⟨_, rfl, rfl, _, rfl, ?_⟩
    refine ite2 (fun c => ?_) (fun c3 => ?_)
    · obtain rfl : i = 3 := nm_inj _ hi _ (by decide) (V.str.inj (of_decide_eq_true c))
      refine ⟨_, rfl, a, ns, rfl, s3.seq hS, ne, by omega, fun big H4 s4 => ?_, fun small H4 p t s4 hp ht => ?_⟩
      · refine ⟨_, rfl, _, rfl, ite2 (fun _ => k0 (if_pos (.inr big)) _ (s3.trans s4)) (fun _ => ⟨_, rfl, rfl, _, rfl, ?_⟩)⟩
        exact ite2 (fun _ => k0 (if_pos (.inr big)) _ (s3.trans s4)) (fun c => absurd rfl c)
      · refine ⟨_, rfl, _, rfl, ite2 (fun c => ?_) (fun c => ⟨_, rfl, rfl, _, rfl, ?_⟩)⟩
        · have c' := al.mp (of_decide_eq_true c)
          have := span_nn ne
          exact k0 (if_pos (.inl (by omega))) _ (s3.trans s4)
        · refine ite2 (fun c => nomatch (of_decide_eq_true c)) (fun _ => ?_)
          have c' : lmin ns < lmax ns := by
            by_cases h : lmin ns < lmax ns
            · exact h
            · exact absurd (decide_eq_true (al.mpr h)) c
          refine ⟨_, rfl, (by show 2 ≤ sizeLine; decide), fun l nl => ⟨_, rfl, l, p, _, _, rfl, rfl, SqT.of upd_same, SqT.of (Same.upd nl _ _ hp), (fun z => nomatch z), (by show 2 + 3 ≤ sizeLine; decide), (fun z => nomatch z), fun _ r nr => ?_⟩⟩
          refine k _ (if_neg (by omega)) _ r (((s3.trans s4).upd' nl).upd' nr) ⟨t, SqT.of upd_same, (Same.upd nr).seqT ((Same.upd nl).seqT ht)⟩
    obtain rfl : i = 4 := by
      match i, hi, c0, c1, c2, c3 with
      | 0, _, c, _, _, _ => exact absurd rfl c
      | 1, _, _, c, _, _ => exact absurd rfl c
      | 2, _, _, _, c, _ => exact absurd rfl c
      | 3, _, _, _, _, c => exact absurd rfl c
      | 4, _, _, _, _, _ => rfl
      | n + 5, h, _, _, _, _ => omega
    refine ⟨_, rfl, _, _, rfl, rfl, _, rfl, ?_⟩
    refine ite2 (fun c => ?_) (fun c4 => ?_)
    · have c' : (ns.length : Int) < 2 := of_decide_eq_true c
      exact k0 (if_pos (by omega)) _ s3
    have c4' : ¬ ns.length < 2 := fun z => c4 (decide_eq_true (by omega))
    have hst := steps_length ns
    refine ⟨_, rfl, 1, _, rfl, ⟨by decide, by decide, by omega, by omega⟩, fun D1 nD1 => ?_⟩
    have en : ((ns.length : Int) - 1).toNat = (steps ns).length := by
      rw [hst]
      omega
    rw [en]
    refine lc_all (walk_range (lo := 1)) (fun i H' => Same H H' ∧ H' D1 = some (.lst (((steps ns).take i).map V.int))) ⟨s3.upd' nD1, upd_same⟩ (fun _ _ _ _ => True.intro) ?_ ?_
    · rintro j x H4 H4' hj ⟨s4, hD1⟩ ⟨rfl, rfl⟩
      have h1 : ns[j]? = some ns[j] := List.getElem?_eq_getElem (by omega)
      have h2 : ns[j + 1]? = some ns[j + 1] := List.getElem?_eq_getElem (by omega)
      have hs := step_at h1 h2
      refine ⟨_, rfl, _, rfl, a, _, _, .int ns[j + 1], rfl, rfl, s4.seq hS, at_of (j := j + 1) (by omega) (by rw [List.getElem?_map, h2]; rfl), _, rfl, _, rfl, _, _, rfl, rfl, a, _, _, .int ns[j], rfl, rfl, s4.seq hS, at_of (j := j) (by omega) (by rw [List.getElem?_map, h1]; rfl), _, _, rfl, rfl, _, hD1, ?_, Same.put s4 (s3.free nD1), ?_⟩
      · rw [List.length_map, List.length_take, sizeLine_eq]
        omega
      · rw [upd_same, take_more hs, List.map_append]
        rfl
    rintro H4 ⟨s4, hD1⟩
    rw [List.take_length] at hD1
    refine ⟨D1, steps ns, rfl, SqL.of hD1, steps_ne c4', by omega, fun big H5 s5 => ?_, fun small H5 p t s5 hp ht => ?_⟩
    · refine ⟨_, rfl, rfl, _, rfl, ?_⟩
      refine ite2 (fun _ => k0 ?_ _ (s4.trans s5)) (fun c => absurd rfl c)
      show mkSteps ns = none
      unfold mkSteps
      rw [if_neg c4', if_pos big]
    · refine ⟨_, rfl, rfl, _, rfl, ?_⟩
      refine ite2 (fun c => nomatch (of_decide_eq_true c)) (fun _ => ?_)
      refine ⟨_, rfl, _, rfl, a, _, 0, _, rfl, rfl, (s4.trans s5).seq hS, ha0, (by show 3 ≤ sizeLine; decide), fun l nl => ⟨_, rfl, l, p, _, _, rfl, rfl, SqT.of upd_same, SqT.of (Same.upd nl _ _ hp), (fun z => nomatch z), (by show 3 + 3 ≤ sizeLine; decide), (fun z => nomatch z), fun _ r nr => ?_⟩⟩
      have em : mkSteps ns = some (.steps ns.length (ns.headD 0) (lmin (steps ns)) (lmax (steps ns) - lmin (steps ns)) (packedFrom (lmin (steps ns)) (lmax (steps ns) - lmin (steps ns)) (steps ns))) := by
        unfold mkSteps
        rw [if_neg c4', if_neg small]
      exact k _ em _ r (((s4.trans s5).upd' nl).upd' nr) ⟨t, SqT.of upd_same, (Same.upd nr).seqT ((Same.upd nl).seqT ht)⟩
end
end K3

set_option Elab.async false
set_option linter.all false
set_option maxRecDepth 100000
set_option maxHeartbeats 4000000
namespace K3
open PySem PySem.Spec PyProof.Rows L2
/-- so many numbers and texts within one another -/
inductive RoomV (K : PySem.W.Frag) (H : Hp) : Nat → V → Nat → Prop where
  | int {n : Nat} (i : Int) : RoomV K H n (.int i) 1
  | str {n : Nat} (z : Str) : RoomV K H n (.str z) 1
  | tup {n : Nat} {a : Addr} {xs : List V} {ws : List Nat} (ha : SqT K H a xs) (hl : xs.length ≤ 10000) (h : xs.length = ws.length) (e : ∀ (i : Nat) (x : V) (w : Nat), xs[i]? = some x → ws[i]? = some w → RoomV K H n x w) : RoomV K H (n + 1) (.ref a) ws.sum
theorem natsum_cast : ∀ ws : List Nat, (ws.map fun w : Nat => (w : Int)).sum = (ws.sum : Nat)
  | [] => rfl
  | w :: r => by
    rw [List.map_cons, List.sum_cons, List.sum_cons, natsum_cast r, Int.natCast_add]
theorem RoomV.same {K : PySem.W.Frag} {H H' : Hp} (s : Same H H') {n : Nat} {x : V} {w : Nat} (h : RoomV K H n x w) : RoomV K H' n x w := by
  induction h with
  | int i => exact .int i
  | str z => exact .str z
  | tup ha hl hh _ ih => exact .tup (s.seqT ha) hl hh ih
theorem ones_sum : ∀ n : Nat, (List.replicate n 1).sum = n
  | 0 => rfl
  | n + 1 => by rw [List.replicate_succ, List.sum_cons, ones_sum n]; omega
theorem roomInts {K : PySem.W.Frag} {H : Hp} {q : Addr} {ns : List Int} (h : SqT K H q (ns.map V.int)) (hl : ns.length ≤ 10000) : RoomV K H 1 (.ref q) ns.length := by
  have k := RoomV.tup (n := 0) (ws := List.replicate ns.length 1) h (by rw [List.length_map]; exact hl) (by rw [List.length_map, List.length_replicate]) fun i x w hx hw => by
    obtain ⟨z, _, rfl⟩ := map_at hx
    obtain ⟨hi, hw2⟩ := List.getElem?_eq_some_iff.mp hw
    rw [List.getElem_replicate] at hw2
    subst hw2
    exact .int z
  rw [ones_sum] at k
  exact k
theorem roomV_of {K : PySem.W.Frag} {H : Hp} {a : Addr} {xs : List V} {ws : List Nat} {n r : Nat} (ha : SqT K H a xs) (hl : xs.length ≤ 10000) (p : Paired (RoomV K H n) xs ws) (hr : ws.sum = r) : RoomV K H (n + 1) (.ref a) r := by
  subst hr
  refine .tup ha hl (Paired.length p) fun i x w hx hw => ?_
  obtain ⟨y, hy, R⟩ := paired_at p hx
  rw [hw] at hy
  cases hy
  exact R
theorem roomF {K : PySem.W.Frag} {H : Hp} {a : Addr} {F : Form} (h : IsF K H a F) (ok : FOk F) : RoomV K H 2 (.ref a) (room F) := by
  cases F with
  | plain vs =>
    obtain ⟨q, h1, h2⟩ := h
    have ok : vs.length ≤ 1000 := ok
    exact roomV_of h1 (by show 2 ≤ 10000; decide) (.cons (.str _) (.cons (roomInts h2 (by omega)) .nil)) (by simp [room])
  | one n v => exact roomV_of (show SqT K H a _ from h) (by show 3 ≤ 10000; decide) (.cons (.str _) (.cons (.int _) (.cons (.int _) .nil))) rfl
  | codes n u c =>
    obtain ⟨q, r, h1, h2, h3⟩ := h
    obtain ⟨_, o2, o3, o4⟩ := ok
    exact roomV_of h1 (by show 4 ≤ 10000; decide) (.cons (.str _) (.cons (.int _) (.cons (roomInts h2 (by omega)) (.cons (roomInts h3 (by omega)) .nil)))) (by simp [room]; omega)
  | near n l s c =>
    obtain ⟨r, h1, h3⟩ := h
    obtain ⟨_, o2, o3, o4⟩ := ok
    exact roomV_of h1 (by show 5 ≤ 10000; decide) (.cons (.str _) (.cons (.int _) (.cons (.int _) (.cons (.int _) (.cons (roomInts h3 (by omega)) .nil))))) (by simp [room]; omega)
  | steps n f l s c =>
    obtain ⟨r, h1, h3⟩ := h
    obtain ⟨_, o2, o3, o4⟩ := ok
    exact roomV_of h1 (by show 6 ≤ 10000; decide) (.cons (.str _) (.cons (.int _) (.cons (.int _) (.cons (.int _) (.cons (.int _) (.cons (roomInts h3 (by omega)) .nil)))))) (by simp [room]; omega)
/-- the first of the forms with the fewest cells -/
def bestF (ns : List Int) : Nat → Form
  | 0 => .plain ns
  | i + 1 => match K3.mk i ns with
    | some F => if room F < room (bestF ns i) then F else bestF ns i
    | none => bestF ns i
theorem bestF_room (ns : List Int) : ∀ i, room (bestF ns i) = lr ns i
  | 0 => rfl
  | i + 1 => by
    show room (match K3.mk i ns with | some F => if room F < room (bestF ns i) then F else bestF ns i | none => bestF ns i) = (match K3.mk i ns with | some F => if room F < lr ns i then room F else lr ns i | none => lr ns i)
    rw [← bestF_room ns i]
    split
    · split <;> rfl
    · rfl
/-- where it stands among those made -/
theorem bestF_at (ns : List Int) : ∀ i, ∃ j q, (made ns (i + 1))[j]? = some (q, bestF ns (i + 1)) ∧ (∀ (m : Nat) (q' : Nat × Form), (made ns (i + 1))[m]? = some q' → room (bestF ns (i + 1)) ≤ room q'.2) ∧ ∀ (m : Nat) (q' : Nat × Form), m < j → (made ns (i + 1))[m]? = some q' → room (bestF ns (i + 1)) < room q'.2
  | 0 => by
    have e : made ns 1 = [(0, .plain ns)] := rfl
    have e2 : bestF ns 1 = .plain ns := by
      show (if room (.plain ns) < room (.plain ns) then Form.plain ns else .plain ns) = _
      split <;> rfl
    rw [e, e2]
    refine ⟨0, 0, rfl, fun m q' h => ?_, fun m q' h _ => absurd h (Nat.not_lt_zero _)⟩
    cases m with
    | zero =>
      cases h
      exact Nat.le_refl _
    | succ m => cases h
  | i + 1 => by
    obtain ⟨j, q, h1, h2, h3⟩ := bestF_at ns i
    cases e : K3.mk (i + 1) ns with
    | none =>
      have em : made ns (i + 1 + 1) = made ns (i + 1) := by
        show (match K3.mk (i + 1) ns with | some F => made ns (i + 1) ++ [(i + 1, F)] | none => made ns (i + 1)) = _
        rw [e]
      have eb : bestF ns (i + 1 + 1) = bestF ns (i + 1) := by
        show (match K3.mk (i + 1) ns with | some F => if room F < room (bestF ns (i + 1)) then F else bestF ns (i + 1) | none => bestF ns (i + 1)) = _
        rw [e]
      rw [em, eb]
      exact ⟨j, q, h1, h2, h3⟩
    | some F =>
      have em : made ns (i + 1 + 1) = made ns (i + 1) ++ [(i + 1, F)] := by
        show (match K3.mk (i + 1) ns with | some F => made ns (i + 1) ++ [(i + 1, F)] | none => made ns (i + 1)) = _
        rw [e]
      have eb : bestF ns (i + 1 + 1) = if room F < room (bestF ns (i + 1)) then F else bestF ns (i + 1) := by
        show (match K3.mk (i + 1) ns with | some F => if room F < room (bestF ns (i + 1)) then F else bestF ns (i + 1) | none => bestF ns (i + 1)) = _
        rw [e]
      have hj := (List.getElem?_eq_some_iff.mp h1).1
      have at_ : ∀ (m : Nat) (q' : Nat × Form), (made ns (i + 1) ++ [(i + 1, F)])[m]? = some q' → (m < (made ns (i + 1)).length ∧ (made ns (i + 1))[m]? = some q') ∨ (m = (made ns (i + 1)).length ∧ q' = (i + 1, F)) := fun m q' h => by
        by_cases c : m < (made ns (i + 1)).length
        · rw [List.getElem?_append_left c] at h
          exact .inl ⟨c, h⟩
        · rw [List.getElem?_append_right (by omega)] at h
          obtain ⟨hl, hx⟩ := List.getElem?_eq_some_iff.mp h
          have hl2 : m - (made ns (i + 1)).length < 1 := hl
          have em2 : m = (made ns (i + 1)).length := by omega
          refine .inr ⟨em2, ?_⟩
          subst em2
          simp at hx
          exact hx.symm
      rw [em, eb]
      by_cases c : room F < room (bestF ns (i + 1))
      · rw [if_pos c]
        refine ⟨(made ns (i + 1)).length, i + 1, ?_, fun m q' h => ?_, fun m q' hm h => ?_⟩
        · rw [List.getElem?_append_right (Nat.le_refl _), Nat.sub_self]
          rfl
        · rcases at_ m q' h with ⟨_, k⟩ | ⟨_, rfl⟩
          · have := h2 m q' k
            omega
          · exact Nat.le_refl _
        · rcases at_ m q' h with ⟨_, k⟩ | ⟨k, _⟩
          · have := h2 m q' k
            omega
          · omega
      · rw [if_neg c]
        refine ⟨j, q, ?_, fun m q' h => ?_, fun m q' hm h => ?_⟩
        · rw [List.getElem?_append_left hj]
          exact h1
        · rcases at_ m q' h with ⟨_, k⟩ | ⟨_, rfl⟩
          · exact h2 m q' k
          · show room (bestF ns (i + 1)) ≤ room F
            omega
        · rcases at_ m q' h with ⟨_, k⟩ | ⟨k, _⟩
          · exact h3 m q' hm k
          · omega
section
variable {P : Program} {w : World} {K : PySem.W.Frag} {mg : Str → Option Value} {base : Heap}
abbrev s__law_room : Stmt := top 67
abbrev N__law_room : List Str := ["_law_form_here", "_law_part"]
abbrev P__law_room : List Str := ["_law_form_here"]
theorem sc__law_room : FnScope N__law_room P__law_room (defScope s__law_room) := ⟨rfl, rfl, rfl, by decide +kernel, rfl, by decide +kernel, by decide +kernel⟩
def spLroom (K : PySem.W.Frag) (n : Nat) : Sp := fun vs H Q _ => ∃ (x : V) (r m : Nat), vs = [x] ∧ m < n ∧ RoomV K H m x r ∧ ∀ H', Same H H' → Q (.int (r : Int)) H'
theorem ok_lroomS {n : Nat} (T : Txt mg) (T4 : Txt4 mg) (D : Df K mg "_law_room" s__law_room P__law_room) (G_lroom : Fn P w K mg base CX0 (1 + n) "_law_room" P__law_room (spLroom K n)) : Fn P w K mg base CX0 (1 + n + 1) "_law_room" P__law_room (spLroom K (n + 1)) := by
  refine D.ok sc__law_room (fun vs H Q E h => ?_) (fun f cdv A outer s H vs Q E hr h => ?_)
  · obtain ⟨x, r, m, rfl, _⟩ := h
    rfl
  · obtain ⟨x, r, m, rfl, hm, hR, k⟩ := h
    have nd := sc__law_room.nd
    refine ⟨_, (pss_one (ps_ret (pe_ifExp (pt_val (pe_callB call_isi (by rfl) T.b_isinstance (by decide +kernel) (pa_cons (pv 0) (pa_cons (pe_bltn (v := .ty "tuple") (by rfl) T.b_tuple (by decide +kernel) rfl) pa_nil)))) (pe_callB (cr_sum rfl) (by rfl) T4.b_sum (by decide +kernel) (pa_cons (pe_lc (own := [("_law_part", 1)]) (g := gName 1) (by rfl) nd  (pi_tup (pv 0)) (blkOk_by (own := [("_law_part", 1)]) (N := N__law_room) (sc := defScope s__law_room) (by decide +kernel)) (fun _ _ _ _ _ => pg_name (i := 1) nd rfl (Or.inl rfl)) (fun _ _ _ _ _ => pts_nil) (fun _ _ _ _ _ => (pe_c G_lroom hr pass0 (pa_cons (pv 1) pa_nil)))) pa_nil)) pe_int))), ?_⟩
    cases hR with
    | int i =>
      refine ⟨_, rfl, _, .ty "tuple", .type "int", .type "tuple", false, rfl, .ty _, .base (.int _), kit_ty (by decide +kernel), _, rfl, ?_⟩
      exact ite2 (fun c => Bool.noConfusion c) (fun _ => k _ (Same.refl _))
    | str z =>
      refine ⟨_, rfl, _, .ty "tuple", .type "str", .type "tuple", false, rfl, .ty _, .base (.str _), kit_ty (by decide +kernel), _, rfl, ?_⟩
      exact ite2 (fun c => Bool.noConfusion c) (fun _ => k _ (Same.refl _))
    | @tup m a xs ws ha hl hlen e =>
      refine ⟨_, rfl, _, .ty "tuple", .type "tuple", .type "tuple", true, rfl, .ty _, tyX_seqT ha, kit_ty (by decide +kernel), _, rfl, ?_⟩
      refine ite2 (fun _ => ?_) (fun c => absurd rfl c)
      refine ⟨_, rfl, a, rfl, ⟨_, ha⟩, fun D0 nD => ?_⟩
      refine lc_all (walk_tup (xs := xs)) (fun j H' => Same H H' ∧ H' D0 = some (.lst (((ws.take j).map fun w : Nat => (w : Int)).map V.int))) ⟨Same.upd nD, upd_same⟩ (fun _ _ _ h => h.1.seqT ha) ?_ ?_
      · rintro j x H2 H2' hj ⟨s2, hD⟩ ⟨rfl, ex⟩
        have hw : ws[j]? = some (ws[j]'(by omega)) := List.getElem?_eq_getElem (by omega)
        refine ⟨_, rfl, x, ws[j]'(by omega), m, rfl, by omega, (e j x _ ex hw).same s2, fun H3 s3 => ⟨_, s3 _ _ hD, ?_, Same.put (s2.trans s3) nD, ?_⟩⟩
        · rw [List.length_map, List.length_map, List.length_take, sizeLine_eq]
          omega
        · rw [upd_same, take_more hw, List.map_append, List.map_append]
          rfl
      · rintro H2 ⟨s2, hD⟩
        rw [hlen, List.take_length] at hD
        refine ⟨D0, _, rfl, SqL.of hD, ?_⟩
        rw [natsum_cast]
        exact k _ s2
theorem ok_lroom0 (D : Df K mg "_law_room" s__law_room P__law_room) : Fn P w K mg base CX0 1 "_law_room" P__law_room (spLroom K 0) := by
  obtain ⟨f, fd, F, hm, hb⟩ := D.ex
  refine ⟨f, fd, ⟨fun vs H Q E h => ?_, fun A outer s H args us vs Q E _ _ _ _ h => ?_⟩, hm, F.kp, hb⟩
  · obtain ⟨x, r, m, _, h, _⟩ := h
    exact absurd h (Nat.not_lt_zero _)
  · obtain ⟨x, r, m, _, h, _⟩ := h
    exact absurd h (Nat.not_lt_zero _)
theorem ok_lroom (T : Txt mg) (T4 : Txt4 mg) (D : Df K mg "_law_room" s__law_room P__law_room) : ∀ n, Fn P w K mg base CX0 (1 + n) "_law_room" P__law_room (spLroom K n)
  | 0 => ok_lroom0 D
  | n + 1 => ok_lroomS T T4 D (ok_lroom T T4 D n)
end
end K3

set_option Elab.async false
set_option linter.all false
set_option maxRecDepth 100000
set_option maxHeartbeats 4000000
namespace K3
open PySem PySem.Spec PyProof.Rows L2
def roomsOf (ns : List Int) (i : Nat) : List Int := (made ns i).map fun q => (room q.2 : Int)
theorem roomsOf_length {ns : List Int} (i : Nat) : (roomsOf ns i).length ≤ i := by
  unfold roomsOf
  rw [List.length_map]
  exact made_length i
theorem roomsOf_some {ns : List Int} {i : Nat} {F : Form} (h : K3.mk i ns = some F) : roomsOf ns (i + 1) = roomsOf ns i ++ [(room F : Int)] := by
  have em : made ns (i + 1) = made ns i ++ [(i, F)] := by
    show (match K3.mk i ns with | some F => made ns i ++ [(i, F)] | none => made ns i) = _
    rw [h]
  unfold roomsOf
  rw [em, List.map_append]
  rfl
theorem roomsOf_none {ns : List Int} {i : Nat} (h : K3.mk i ns = none) : roomsOf ns (i + 1) = roomsOf ns i := by
  have em : made ns (i + 1) = made ns i := by
    show (match K3.mk i ns with | some F => made ns i ++ [(i, F)] | none => made ns i) = _
    rw [h]
  unfold roomsOf
  rw [em]
section
variable {P : Program} {w : World} {K : PySem.W.Frag} {mg : Str → Option Value} {base : Heap}
/-- the least form, the very one -/
def spBest (K : PySem.W.Frag) : Sp := fun vs H Q _ => ∃ (a : Addr) (ns : List Int), vs = [.ref a] ∧ SqL K H a (ns.map V.int) ∧ Good ns ∧
  ∀ (H' : Hp) (p : Addr), Same H H' → IsF K H' p (bestF ns 5) → Q (.ref p) H'
theorem ok_best {d : Addr} (T : Txt mg) (M : Makers P w K mg base d) (D : Df K mg "least_form" s_least_form P_least_form) (G_check_values : Fn P w K mg base CX0 1 "check_values" P_check_values (spChV K))
    (G_make_plain : Fn P w K mg base CX0 1 "make_plain" P_make_plain (spMk K mkPlain)) (G_room : Fn P w K mg base CX0 1 "room" P_room (spRoom K)) : Fn P w K mg base CX0 6 "least_form" P_least_form (spBest K) := by
  refine D.ok sc_least_form (fun vs H Q E h => ?_) (fun f cdv A outer s H vs Q E hr h => ?_)
  · obtain ⟨a, ns, rfl, _⟩ := h
    rfl
  · obtain ⟨a, ns, rfl, hS, G, k⟩ := h
    have nd := sc_least_form.nd
    have hM := M.g
    refine ⟨_, (pss_cons (ps_expr (pe_c G_check_values (hr.mono (by decide)) pass0 (pa_cons (pv 0) pa_nil)))
  (pss_cons (ps_set (i := 1) nd rfl (by first | exact Or.inl rfl | exact Or.inr rfl) (pe_c G_make_plain (hr.mono (by decide)) pass0 (pa_cons (pv 0) pa_nil)))
  (pss_cons (ps_for PassesOwn.never rfl (pi_ks (pe_glob (v := .ref d) (by rfl) hM rfl)) (pg_name (i := 2) nd rfl (by first | exact Or.inl rfl | exact Or.inr rfl))
  (pss_cons (ps_set (i := 3) nd rfl (by first | exact Or.inl rfl | exact Or.inr rfl) (pe_ix ix_kdict (pe_glob (v := .ref d) (by rfl) hM rfl) (pv 2) (fun _ _ => rfl)))
  (pss_cons (ps_set (i := 4) nd rfl (by first | exact Or.inl rfl | exact Or.inr rfl) (pe_callH (k := 5) (i := 3) (hr.mono (by decide)) rfl (.inl rfl) (pa_cons (pv 0) pa_nil)))
  (pss_one (ps_if (PW.pt (pw_and (pt_cmpR op_notN (pv 4) pe_non (nomark _)) (pw_and1 (pt_cmpR op_lt (pe_c G_room (hr.mono (by decide)) pass0 (pa_cons (pv 4) pa_nil)) (pe_c G_room (hr.mono (by decide)) pass0 (pa_cons (pv 1) pa_nil)) (nomark _)))))
  (pss_one (ps_set (i := 1) nd rfl (by first | exact Or.inl rfl | exact Or.inr rfl) (pv 4)))
  pss_nil)))))
  (pss_one (ps_ret (pv 1)))))), ?_⟩
    refine ⟨_, rfl, a, ns, rfl, hS, G, fun H1 s1 => ?_⟩
    refine ⟨_, rfl, a, ns, rfl, s1.seq hS, G, (fun z => nomatch z), fun F hF H2 p s2 hp => ?_⟩
    obtain rfl : Form.plain ns = F := Option.some.inj hF
    refine ⟨d, nms, rfl, M.keys, for_it walk_ks (fun i σ H' => ∃ (q : Addr) (v2 v3 v4 : Option V), σ = [some (.ref a), some (.ref q), v2, v3, v4] ∧ Same H H' ∧ IsF K H' q (bestF ns i)) ⟨p, none, none, none, rfl, s1.trans s2, hp⟩ (fun _ _ _ _ _ => True.intro) ?_ ?_⟩
    · rintro i x σ H3 H4 hi ⟨q, v2, v3, v4, rfl, s3, hq⟩ ⟨rfl, z, hz, rfl⟩
      have hi : i < 5 := hi
      obtain rfl : nmOf i = z := by
        unfold nmOf
        rw [List.getD_eq_getElem?_getD, hz]
        rfl
      obtain ⟨fm, hh, hkd⟩ := M.all i hi
      refine ⟨_, rfl, d, nmOf i, _, rfl, rfl, hkd, ?_⟩
      refine ⟨fm, _, rfl, hh, _, rfl, a, ns, rfl, s3.seq hS, G, fun hn H5 s5 => ?_, fun F5 hF5 H5 p5 s5 hp5 => ?_⟩
      · refine ⟨_, rfl, rfl, _, rfl, ?_⟩
        refine ite2 (fun c => absurd c (by decide)) (fun _ => ?_)
        refine ite2 (fun c => absurd c (by decide)) (fun _ => ?_)
        refine ⟨q, _, _, _, rfl, s3.trans s5, ?_⟩
        show IsF K H5 q (match K3.mk i ns with | some F => if K3.room F < K3.room (bestF ns i) then F else bestF ns i | none => bestF ns i)
        rw [hn]
        exact hq.same s5
      · refine ⟨_, rfl, rfl, _, rfl, ?_⟩
        refine ite2 (fun _ => ?_) (fun c => absurd rfl c)
        refine ⟨_, rfl, p5, F5, rfl, hp5, _, rfl, q, bestF ns i, rfl, hq.same s5, _, _, rfl, rfl, _, rfl, ?_⟩
        have el : bestF ns (i + 1) = if K3.room F5 < K3.room (bestF ns i) then F5 else bestF ns i := by
          show (match K3.mk i ns with | some F => if K3.room F < K3.room (bestF ns i) then F else bestF ns i | none => bestF ns i) = _
          rw [hF5]
        refine ite2 (fun c => ?_) (fun c => ?_)
        · have c' : (K3.room F5 : Int) < (K3.room (bestF ns i) : Int) := of_decide_eq_true c
          refine ⟨_, rfl, p5, _, _, _, rfl, s3.trans s5, ?_⟩
          rw [el, if_pos (by omega)]
          exact hp5
        · have c' : ¬ (K3.room F5 : Int) < (K3.room (bestF ns i) : Int) := fun z => c (decide_eq_true z)
          refine ⟨q, _, _, _, rfl, s3.trans s5, ?_⟩
          rw [el, if_neg (by omega)]
          exact hq.same s5
    · rintro σ H' ⟨q, v2, v3, v4, rfl, s3, hq⟩
      exact ⟨_, rfl, k _ q s3 hq⟩
abbrev s__law_least : Stmt := top 68
abbrev N__law_least : List Str := ["_law_values_here", "_law_some", "_law_name", "_law_form_here", "_law_rooms"]
abbrev P__law_least : List Str := ["_law_values_here"]
theorem sc__law_least : FnScope N__law_least P__law_least (defScope s__law_least) := ⟨rfl, rfl, rfl, by decide +kernel, rfl, by decide +kernel, by decide +kernel⟩
def FormIs (K : PySem.W.Frag) (H : Hp) (x : V) (q : Nat × Form) : Prop := ∃ p, x = .ref p ∧ IsF K H p q.2
theorem formIs_keep {K : PySem.W.Frag} {H H' : Hp} {xs : List V} {l : List (Nat × Form)} (h : Paired (FormIs K H) xs l) (s : SameT H H') : Paired (FormIs K H') xs l := Paired.mapP h fun _ _ ⟨p, a, b⟩ => ⟨p, a, b.keep s⟩
/-- each of the five, or None -/
def FiveAt (K : PySem.W.Frag) (H : Hp) (ns : List Int) (acc : List V) : Prop := ∀ (i : Nat) (x : V), acc[i]? = some x → (K3.mk i ns = none ∧ x = .non) ∨ ∃ F p, K3.mk i ns = some F ∧ x = .ref p ∧ IsF K H p F
theorem FiveAt.keep {K : PySem.W.Frag} {H H' : Hp} {ns : List Int} {acc : List V} (h : FiveAt K H ns acc) (s : SameT H H') : FiveAt K H' ns acc := fun i x e => by
  rcases h i x e with z | ⟨F, p, a, b, c⟩
  · exact .inl z
  · exact .inr ⟨F, p, a, b, c.keep s⟩
theorem FiveAt.snoc {K : PySem.W.Frag} {H : Hp} {ns : List Int} {acc : List V} {y : V} (h : FiveAt K H ns acc) (hy : (K3.mk acc.length ns = none ∧ y = .non) ∨ ∃ F p, K3.mk acc.length ns = some F ∧ y = .ref p ∧ IsF K H p F) : FiveAt K H ns (acc ++ [y]) := fun i x e => by
  by_cases c : i < acc.length
  · rw [List.getElem?_append_left c] at e
    exact h i x e
  · rw [List.getElem?_append_right (by omega)] at e
    obtain ⟨hl, hx⟩ := List.getElem?_eq_some_iff.mp e
    have hl2 : i - acc.length < 1 := hl
    have e2 : i = acc.length := by omega
    subst e2
    simp at hx
    rw [← hx]
    exact hy
theorem ok_lleast (T : Txt mg) (D : Df K mg "_law_least" s__law_least P__law_least) (G__law_form : Fn P w K mg base CX0 4 "_law_form" P__law_form (spLf K)) (G__law_room : Fn P w K mg base CX0 4 "_law_room" P__law_room (spLroom K 3)) : Fn P w K mg base CX0 5 "_law_least" P__law_least (spBest K) := by
  refine D.ok sc__law_least (fun vs H Q E h => ?_) (fun f cdv A outer s H vs Q E hr h => ?_)
  · obtain ⟨a, ns, rfl, _⟩ := h
    rfl
  · obtain ⟨a, ns, rfl, hS, G, k⟩ := h
    have nd := sc__law_least.nd
    refine ⟨_, (pss_cons (ps_setLc (i := 1) (own := [("_law_name", 2)]) (g := gName 2) (by rfl) nd rfl rfl (sw_true rfl rfl rfl (by decide +kernel)) (pi_list (pe_lst (pa_cons pe_str (pa_cons pe_str (pa_cons pe_str (pa_cons pe_str (pa_cons pe_str pa_nil))))))) (blkOk_by (own := [("_law_name", 2)]) (N := N__law_least) (sc := defScope s__law_least) (by decide +kernel)) (fun _ _ _ _ _ => pg_name (i := 2) nd rfl (Or.inl rfl)) (fun _ _ _ _ _ => pts_nil) (fun _ _ _ _ _ => (pe_c G__law_form (hr.mono (by decide)) pass0 (pa_cons (pv 2) (pa_cons (pv 0) pa_nil)))))
  (pss_cons (ps_setLc (i := 1) (own := [("_law_form_here", 3)]) (g := gName 3) (by rfl) nd rfl rfl (sw_true rfl rfl rfl (by decide +kernel)) (pi_list (pv 1)) (blkOk_by (own := [("_law_form_here", 3)]) (N := N__law_least) (sc := defScope s__law_least) (by decide +kernel)) (fun _ _ _ _ _ => pg_name (i := 3) nd rfl (Or.inl rfl)) (fun _ _ _ _ _ => pts_one (pt_cmpR op_notN (pv 3) pe_non (nomark _))) (fun _ _ _ _ _ => (pv 3)))
  (pss_cons (ps_setLc (i := 4) (own := [("_law_form_here", 3)]) (g := gName 3) (by rfl) nd rfl rfl (sw_true rfl rfl rfl (by decide +kernel)) (pi_list (pv 1)) (blkOk_by (own := [("_law_form_here", 3)]) (N := N__law_least) (sc := defScope s__law_least) (by decide +kernel)) (fun _ _ _ _ _ => pg_name (i := 3) nd rfl (Or.inl rfl)) (fun _ _ _ _ _ => pts_nil) (fun _ _ _ _ _ => (pe_c G__law_room (hr.mono (by decide)) pass0 (pa_cons (pv 3) pa_nil))))
  (pss_one (ps_ret (pe_ix ix_list (pv 1) (pe_bm PySem.F.plainAttrs_list PySem.F.slot_list_index PySem.F.type_list_index mt_index (pv 4) (pa_cons (pe_callB (cr_min rfl) (by rfl) T.b_min (by decide +kernel) (pa_cons (pv 4) pa_nil)) pa_nil)) (fun _ _ => rfl))))))), ?_⟩
    refine ⟨(by show 5 ≤ sizeLine; decide), fun l nl => ?_⟩
    have sl := Same.upd (o := .lst [.str "plain", .str "one", .str "codes", .str "near", .str "steps"]) nl
    refine ⟨l, rfl, ⟨_, SqL.of upd_same⟩, fun D0 nD0 => ?_⟩
    refine lc_all (walk_list (xs := [.str "plain", .str "one", .str "codes", .str "near", .str "steps"])) (fun m H' => ∃ acc : List V, Same (upd H l (.lst [.str "plain", .str "one", .str "codes", .str "near", .str "steps"])) H' ∧ H' D0 = some (.lst acc) ∧ acc.length = m ∧ FiveAt K H' ns acc) ⟨[], Same.upd nD0, upd_same, rfl, fun i x e => (nomatch e)⟩ (fun _ _ _ ⟨_, h, _⟩ => SqL.of (h _ _ upd_same)) ?_ ?_
    · rintro m x H2 H2' hm ⟨acc, s2, hD, hl, F5⟩ ⟨rfl, e⟩
      have hm : m < 5 := hm
      obtain ⟨z, hz, rfl⟩ := map_at (f := V.str) (l := nms) e
      obtain rfl : nmOf m = z := by
        unfold nmOf
        rw [List.getD_eq_getElem?_getD, hz]
        rfl
      subst hl
      refine ⟨_, rfl, _, rfl, acc.length, a, ns, rfl, hm, (sl.trans s2).seq hS, G, fun hn H3 s3 => ?_, fun F hF H3 p s3 hp => ?_⟩
      · have e3 := s3 _ _ hD
        refine ⟨acc, e3, by rw [sizeLine_eq]; omega, acc ++ [.non], Same.put (s2.trans s3) nD0, upd_same, by rw [List.length_append]; rfl, ?_⟩
        exact ((F5.keep (.of s3)).keep (.lst e3)).snoc (.inl ⟨hn, rfl⟩)
      · have e3 := s3 _ _ hD
        refine ⟨acc, e3, by rw [sizeLine_eq]; omega, acc ++ [.ref p], Same.put (s2.trans s3) nD0, upd_same, by rw [List.length_append]; rfl, ?_⟩
        exact ((F5.keep (.of s3)).keep (.lst e3)).snoc (.inr ⟨F, p, hF, rfl, hp.keep (.lst e3)⟩)
    rintro H2 ⟨acc, s2, hD, hl, F5⟩
    have hl : acc.length = 5 := hl
    have sA := sl.trans s2
    refine ⟨_, rfl, D0, rfl, ⟨_, SqL.of hD⟩, fun D1 nD1 => ?_⟩
    refine lc_if (walk_list (xs := acc)) (fun m H' => ∃ acc2 : List V, Same H2 H' ∧ H' D1 = some (.lst acc2) ∧ Paired (FormIs K H') acc2 (made ns m)) ⟨[], Same.upd nD1, upd_same, .nil⟩ (fun _ _ _ ⟨_, h, _⟩ => SqL.of (h _ _ hD)) ?_ ?_
    · rintro m x H3 H3' hm ⟨acc2, s3, hD1, pr⟩ ⟨rfl, e⟩
      have hlen : acc2.length = (made ns m).length := Paired.length pr
      have hml := made_length (ns := ns) m
      refine ⟨_, rfl, rfl, _, rfl, ?_⟩
      rcases F5 m x e with ⟨hn, rfl⟩ | ⟨F, p, hF, rfl, hp⟩
      · refine ite2 (fun c => Bool.noConfusion (show false = true from c)) (fun _ => ⟨acc2, s3, hD1, ?_⟩)
        have em : made ns (m + 1) = made ns m := by
          show (match K3.mk m ns with | some F => made ns m ++ [(m, F)] | none => made ns m) = _
          rw [hn]
        rw [em]
        exact pr
      · refine ite2 (fun _ => ?_) (fun c => absurd rfl c)
        refine ⟨_, rfl, acc2, hD1, by rw [sizeLine_eq]; omega, acc2 ++ [.ref p], Same.put s3 nD1, upd_same, ?_⟩
        have em : made ns (m + 1) = made ns m ++ [(m, F)] := by
          show (match K3.mk m ns with | some F => made ns m ++ [(m, F)] | none => made ns m) = _
          rw [hF]
        rw [em]
        exact paired_snoc (formIs_keep pr (.lst hD1)) ⟨p, rfl, (hp.same s3).keep (.lst hD1)⟩
    rintro H3 ⟨acc2, s3, hD1, pr⟩
    rw [hl] at pr
    have hlen : acc2.length = (made ns 5).length := Paired.length pr
    refine ⟨_, rfl, D1, rfl, ⟨_, SqL.of hD1⟩, fun D2 nD2 => ?_⟩
    refine lc_all (walk_list (xs := acc2)) (fun m H' => Same H3 H' ∧ H' D2 = some (.lst (((roomsOf ns 5).take m).map V.int))) ⟨Same.upd nD2, upd_same⟩ (fun _ _ _ h => SqL.of (h.1 _ _ hD1)) ?_ ?_
    · rintro m x H4 H4' hm ⟨s4, hD2⟩ ⟨rfl, e⟩
      obtain ⟨q, hq, p, rfl, hp⟩ := paired_at pr e
      obtain ⟨q1, q2⟩ := made_in (j := q.1) (F := q.2) (List.mem_of_getElem? hq)
      have hr4 : (roomsOf ns 5)[m]? = some (K3.room q.2 : Int) := by
        unfold roomsOf
        rw [List.getElem?_map, hq]
        rfl
      refine ⟨_, rfl, .ref p, K3.room q.2, 2, rfl, by decide, (roomF hp (mk_ok G q2)).same s4, fun H5 s5 => ⟨_, s5 _ _ hD2, ?_, Same.put (s4.trans s5) nD2, ?_⟩⟩
      · have := roomsOf_length (ns := ns) 5
        rw [List.length_map, List.length_take, sizeLine_eq]
        omega
      · rw [upd_same, take_more hr4, List.map_append]
        rfl
    rintro H4 ⟨s4, hD2⟩
    have er : (roomsOf ns 5).length = (made ns 5).length := by
      unfold roomsOf
      rw [List.length_map]
    rw [hlen, ← er, List.take_length] at hD2
    obtain ⟨j, q, h1, h2, h3⟩ := bestF_at ns 4
    have h1 : (made ns 5)[j]? = some (q, bestF ns 5) := h1
    have h2 : ∀ (m : Nat) (q' : Nat × Form), (made ns 5)[m]? = some q' → K3.room (bestF ns 5) ≤ K3.room q'.2 := h2
    have h3 : ∀ (m : Nat) (q' : Nat × Form), m < j → (made ns 5)[m]? = some q' → K3.room (bestF ns 5) < K3.room q'.2 := h3
    have hj := (List.getElem?_eq_some_iff.mp h1).1
    have rj : (roomsOf ns 5)[j]? = some (K3.room (bestF ns 5) : Int) := by
      unfold roomsOf
      rw [List.getElem?_map, h1]
      rfl
    have xj : acc2[j]? = some (acc2[j]'(by omega)) := List.getElem?_eq_getElem (by omega)
    obtain ⟨q', hq', p, hp, hF⟩ := paired_at pr xj
    obtain rfl : (q, bestF ns 5) = q' := Option.some.inj (h1.symm.trans hq')
    rw [hp] at xj
    refine ⟨_, rfl, _, rfl, .inl ⟨rfl, _, SqL.of hD2⟩, _, rfl, D2, roomsOf ns 5, rfl, SqL.of hD2, by omega, fun m m1 m2 => ?_⟩
    have em : m = (K3.room (bestF ns 5) : Int) := by
      have a1 := m2 _ (List.mem_of_getElem? rj)
      obtain ⟨i0, hi0, rfl⟩ := List.mem_iff_getElem.mp m1
      have hi0' : (roomsOf ns 5)[i0]? = some (roomsOf ns 5)[i0] := List.getElem?_eq_getElem hi0
      have hm0 : (made ns 5)[i0]? = some ((made ns 5)[i0]'(by omega)) := List.getElem?_eq_getElem (by omega)
      have a2 := h2 i0 _ hm0
      have a3 : (roomsOf ns 5)[i0]? = some (K3.room ((made ns 5)[i0]'(by omega)).2 : Int) := by
        unfold roomsOf
        rw [List.getElem?_map, hm0]
        rfl
      rw [hi0'] at a3
      have a4 := Option.some.inj a3
      have a2 : K3.room (bestF ns 5) ≤ K3.room ((made ns 5)[i0]'(by omega)).2 := a2
      omega
    subst em
    refine ⟨D2, (roomsOf ns 5).map V.int, .int (K3.room (bestF ns 5) : Int), j, .int (K3.room (bestF ns 5) : Int), rfl, rfl, SqL.of hD2, rfl, flat_ints _, by rw [List.getElem?_map, rj]; rfl, beq_self_eq_true (K3.room (bestF ns 5) : Int), fun m' z' hm' hz' => ?_, ?_⟩
    · obtain ⟨y, hy, rfl⟩ := map_at hz'
      show (y == (K3.room (bestF ns 5) : Int)) = false
      refine beq_eq_false_iff_ne.mpr fun e => ?_
      have hl' := (List.getElem?_eq_some_iff.mp hy).1
      have hm0 : (made ns 5)[m']? = some ((made ns 5)[m']'(by omega)) := List.getElem?_eq_getElem (by omega)
      have a3 : (roomsOf ns 5)[m']? = some (K3.room ((made ns 5)[m']'(by omega)).2 : Int) := by
        unfold roomsOf
        rw [List.getElem?_map, hm0]
        rfl
      rw [hy] at a3
      have a4 := Option.some.inj a3
      have a5 : K3.room (bestF ns 5) < K3.room ((made ns 5)[m']'(by omega)).2 := h3 m' _ hm' hm0
      omega
    · exact ⟨D1, acc2, _, _, rfl, rfl, SqL.of (s4 _ _ hD1), atI_nat xj, k _ p (((sA.trans s3)).trans s4) (hF.same s4)⟩
end
end K3

set_option Elab.async false
set_option linter.all false
set_option maxRecDepth 100000
set_option maxHeartbeats 4000000
/-! KX: defs called while an exception is handled, isinstance of it, its fields; a lambda handed to a def that tells refusals -/
namespace K3
open PySem PySem.Spec PyProof.Rows L2
/-! ### defs called while an exception is handled: their promise knows which -/
structure FnP (P : Program) (w : World) (K : PySem.W.Frag) (mg : Str → Option Value) (base : Heap) (CX : CXT) (k : Nat) (f : Addr) (fd : FuncData) (ps : List Str) (sp : Addr × Obj → Sp) : Prop where
  len : ∀ p vs H Q E, sp p vs H Q E → vs.length = ps.length
  run : ∀ (A : Around) (outer : List Env) (s : Shared) (H : Hp) (args : Args) (us : List Value) (vs : List V) (Q : VK) (E : XK) (p : Addr × Obj), L2H.RoomH k A → L2H.PinOk outer H s p → Env0 P w K mg base A outer s H → BindsTo s fd args (ps.zip us) → Vals vs us → sp p vs H Q E →
    codeAny (model P w) A (.call (.ref f) args) (CR CX outer P w H s Q E) s
/-- .. by its name -/
structure Fnp (P : Program) (w : World) (K : PySem.W.Frag) (mg : Str → Option Value) (base : Heap) (CX : CXT) (k : Nat) (x : Str) (ps : List Str) (sp : Addr × Obj → Sp) : Prop where
  ex : ∃ (f : Addr) (fd : FuncData), FnP P w K mg base CX k f fd ps sp ∧ mg x = some (.ref f) ∧ PySem.W.keepIn K (.ref f) = true ∧ Binds K fd ps []
section
variable {P : Program} {w : World} {K : PySem.W.Frag} {mg : Str → Option Value} {base : Heap}
theorem Df.okP {CX : CXT} {x : Str} {st : Stmt} {N ps : List Str} {k : Nat} {sp : Addr × Obj → Sp} (D : Df K mg x st ps) (S : FnScope N ps (defScope st)) (len : ∀ p vs H Q E, sp p vs H Q E → vs.length = ps.length)
    (hbody : ∀ (f : Addr) (cdv : Value) (A : Around) (outer : List Env) (s : Shared) (H : Hp) (vs : List V) (Q : VK) (E : XK) (p : Addr × Obj), L2H.RoomH k (A.deeper (envOfC x (defScope st) s.heap.objs.size f cdv)) → sp p vs H Q E →
      ∃ t, PSs (L2H.cxH CX P w K mg base N x (defScope st) f cdv A outer s H E p) (defBody st) t ∧ t { nx := fun _ H' => Q .non H', rt := Q } (start N vs) H) : Fnp P w K mg base CX (k + 1) x ps sp := by
  obtain ⟨f, fd, F, hm, hb⟩ := D.ex
  refine ⟨f, fd, ⟨len, fun A outer s H args us vs Q E p hr hpin e0 hbt r hsp => ?_⟩, hm, F.kp, hb⟩
  obtain ⟨oc, od, dV, kV, doc, pm, an, cdv, ct, osl, rfl, lk, hcd, _, _⟩ := F.ex
  have hl := len _ _ _ _ _ hsp
  have KX : K.In s.heap := e0.mod.kin.keeps fun b o e => (e0.bs b o e).1
  have lim : s.heap.NoLimit := e0.mod.nolimit.keeps fun b o e => (e0.bs b o e).1
  have hkind : ∀ y ∈ ps.zip us, (defScope st).names.lookup y.1 = some .local ∨ ((defScope st).names.lookup y.1 = some .cell ∧ ((cellsFrom (s.heap.objs.size + 1) (defScope st).names []).lookup y.1).isSome = true) := fun ⟨n, v⟩ hy => by
    rcases S.par n (List.of_mem_zip hy).1 with q | q
    · exact .inl q
    · exact .inr ⟨q, PySem.W.cellsFrom_some _ _ _ (.inl q)⟩
  refine codeAny_call_function hr.depth (KX _ _ lk) rfl S.co S.gen rfl (PySem.W.codeRec_of KX hcd) (hbt _ _ _ _ ?_)
  refine wpAny_newFunctionEnv_cells S.kind hkind fun env he s1 xc => ?_
  subst he
  refine ⟨lim.keeps xc.toInCall.keep, codeAny_func ?_⟩
  obtain ⟨t, ht, hq⟩ := hbody f cdv A outer s H vs Q E p (hr.deeper _) hsp
  have I : Inv (L2H.cxH CX P w K mg base N x (defScope st) f cdv A outer s H E p) [] (L2.start N vs) H s1 := L2H.inv_startH S hpin e0 hl r xc
  refine wpAny_mono (ht.run [] s1 (L2.start N vs) H _ I hq) (fun fl s' hs => ?_) fun e s' hs => hs
  have fin : ∀ {σ' : L2.St} {H' : Hp} {v : V} {u : Value}, Inv (L2H.cxH CX P w K mg base N x (defScope st) f cdv A outer s H E p) [] σ' H' s' → RelV v u → Q v H' → CE outer P w H s Q u s' :=
    fun {σ' H' v u} J rv q => ⟨v, H', J.os, J.bare, J.base, J.hok, rv, q⟩
  cases fl with
  | ret u =>
    obtain ⟨v, σ', H', J, rv, q⟩ := hs
    exact fin J rv q
  | next =>
    obtain ⟨σ', H', J, q⟩ := hs
    exact fin (v := V.non) (u := Value.none) J rfl q
  | brk =>
    obtain ⟨_, _, _, q⟩ := hs
    exact False.elim q
  | cont =>
    obtain ⟨_, _, _, q⟩ := hs
    exact False.elim q
end
section
variable {X : Cx} {CX : CXT} {k : Nat} {ps : List Str} {sp : Addr × Obj → Sp} {E : L2.St → XK} {x : Str} {q pos : Pos} {e : Expr} {es : List Expr} {t : TA} {p : Addr × Obj}
/-- a call of such a def, where p is pinned -/
theorem pe_cP (F : Fnp X.prog X.w X.K X.mg X.base CX k x ps sp) (hr : L2H.RoomH k X.A) (hp : p ∈ X.pn) (hx : ∀ σ, PassesAt CX X σ (E σ)) (ha : PA X (e :: es) t) (hg : Gl X x := by rfl)
    (hdb : (x == ("__debug__" : Str)) = false := by decide) (he : starEach (e :: es) X.env = (false, eval e X.env) :: starEach es X.env := by rfl) (hpl : (backTo pos (starEach es X.env)).any (·.1) = false := by rfl) :
    PE X (.Call (.Name x q) (e :: es) [] pos) (tCallS (sp p) E t) := by
  obtain ⟨f, fd, G, hm, hk, hb⟩ := F.ex
  refine ⟨fun pins s σ H Q I h => ?_⟩
  refine wpAny_Call_Name_kw (ld_glob I hg hm ?_ hdb)
  refine PySem.W.callWith_K (h₀ := X.base) I.ok.mod.kin hk (thn (ha.run pos pins s σ H _ I h) fun us s1 ⟨vs, H1, I1, r, hq⟩ => ⟨I1.kIn, ?_⟩) he hpl
  have hl : us.length = ps.length := by rw [← r.length]; exact G.len _ _ _ _ _ hq
  have b := hb s1 us I1.kIn (by rw [List.append_nil]; exact hl)
  rw [List.append_nil] at b
  have P1 := I1.pin p (List.mem_append_left _ hp)
  have hpin : L2H.PinOk X.stack H1 s1 p := ⟨P1.1, P1.2.1, fun hm => (List.mem_cons.mp (I1.stkSub p.1 hm)).elim P1.2.2.1 P1.2.2.2.1, P1.2.2.2.2⟩
  refine wpAny_call (codeAny_mono (G.run X.A X.stack s1 H1 ⟨us, []⟩ us vs Q (E σ) p hr hpin I1.env0 b r hq) fun r s' hq => ?_)
  cases r with
  | error e => exact hx σ pins H1 s1 e s' I1 hq
  | ok fl =>
    cases fl with
    | ret u => exact I1.after hq
    | next => exact False.elim hq
    | brk => exact False.elim hq
    | cont => exact False.elim hq
end
/-! ### isinstance(e, c), e pinned -/
def rIsP (K : PySem.W.Frag) (D a : Addr) (d : Option Addr) : List V → Hp → VK → Prop := fun xs H Q => ∃ (c : V) (cv : Value) (b : Bool), xs = [.ref a, c] ∧ (∀ u, RelV c u → u = cv) ∧ PySem.W.kitOne K (.ref D) cv = some b ∧ (∀ dd, d = some dd → ∃ fs, H dd = some (.xd fs)) ∧ Q (.bl b) H
theorem call_isP {X : Cx} {a D : Addr} {oe : Obj} {d : Option Addr} (hp : (a, oe) ∈ X.pn) (C : L2.ExcC X.K D) (hz : Zc (.ref D) d oe) (hf : ∃ vs, oe.data = .fields vs) : CallR X (.builtin "isinstance") (rIsP X.K D a d) := by
  intro pins s σ H xs us Q I r h
  obtain ⟨c, cv, b, rfl, hcv, e, hd, q⟩ := h
  cases r with
  | cons rx rr =>
    cases rr with
    | cons rt rr =>
      cases rr
      cases rx
      have ec := hcv _ rt
      subst ec
      obtain ⟨hget, _⟩ := I.pin (a, oe) (List.mem_append.mpr (.inl hp))
      obtain ⟨vs, hv⟩ := hf
      have J : ∃ od, PySem.W.InstAt s.heap a oe D od := by
        obtain ⟨oc, odd, oda, osl⟩ := oe
        obtain ⟨h1, h2⟩ := hz
        dsimp only at h1 h2 hv
        subst h1 h2 hv
        cases odd with
        | none => exact ⟨none, hget, rfl, rfl, trivial⟩
        | some dd =>
          obtain ⟨fs, hfs⟩ := hd dd rfl
          have hx : ObjOk X.prog X.w H s.heap dd (.xd fs) := I.hok dd _ hfs
          obtain ⟨mA, hns, hr⟩ := hx
          obtain ⟨o, ho, _⟩ := lookIn_ns hns
          exact ⟨some o, hget, rfl, rfl, ho⟩
      obtain ⟨od, J⟩ := J
      have hcl : (PySem.W.clsIn X.K D).isSome = true := by
        obtain ⟨cd, hc, _⟩ := PySem.W.any_some C.hd
        rw [hc]
        rfl
      exact PySem.W.kia_one (PySem.W.kitx_exc (od := od) hcl C.hg C.hk C.hs C.ha C.hn C.ht C.hm) I.kIn J e (fun z => nomatch z) fun tk => ⟨.bl b, H, I.kept (t' := tk) fun _ _ z => z, rfl, q⟩
/-! ### list.count of flat values -/
def rCntV (K : PySem.W.Frag) : V → List V → Hp → VK → Prop := fun x xs H Q => ∃ (p : Addr) (ys : List V) (y : V), x = .ref p ∧ xs = [y] ∧ SqL K H p ys ∧ flatV y = true ∧ ys.all flatV = true ∧ Q (.int ((ys.countP fun z => eqV z y : Nat) : Int)) H
theorem countV {y : V} : ∀ {ys : List V} {us : List Value}, Vals ys us → ys.all flatV = true → us.countP (eqU y) = ys.countP fun z => eqV z y
  | _, _, .nil, _ => rfl
  | z :: ys, u :: us, .cons r t, f => by
    rw [List.all_cons, Bool.and_eq_true] at f
    have ih := countV (y := y) t f.2
    rw [List.countP_cons, List.countP_cons, ih, eqU_of r f.1]
theorem mt_lcountV {X : Cx} : MtR X "list.count" (rCntV X.K) := by
  intro pins s σ H x xs v us Q I rx rxs h
  obtain ⟨p, ys, y, rfl, rfl, hs, fy, fys, q⟩ := h
  cases rx
  cases rxs with
  | cons ry rt =>
    rename_i uy ut
    cases rt
    obtain ⟨its, rv, ⟨⟨cls, dd, data, sl⟩, n, ho, hc, hdn, hd⟩, hlen⟩ := I.list hs
    simp only at hc hd
    subst hc hd
    refine call_meets PySem.F.slot_list_count ⟨_, ho, rfl⟩ PySem.F.entry_list_count (PySem.F.args_list_count_2 _ _)
      (SeqAt.list_countAt p its.toArray n dd sl uy (eqU y)) ⟨ho, fun u hu => mem_eqAt ry fy rv fys u (by simpa using hu), ?_⟩
    have ec : its.toArray.toList.countP (eqU y) = ys.countP fun z => eqV z y := countV rv fys
    refine ⟨.int ((ys.countP fun z => eqV z y : Nat) : Int), H, I.tok _, ⟨s.toks, ?_⟩, q⟩
    show Value.int ((its.toArray.toList.countP (eqU y) : Nat) : Int) s.toks = Value.int ((ys.countP fun z => eqV z y : Nat) : Int) s.toks
    rw [ec]
/-! ### e.f in an except suite, whichever class it is -/
def tXfA (K : PySem.W.Frag) (a : Addr) (cls : Value) (d : Option Addr) (f : Str) (te : TE) : TE := fun σ H Q => te σ H fun x H1 => x = .ref a ∧ ∃ (C dd : Addr) (fs : List (Str × V)) (v : V), XfC K C ∧ PySem.W.findIn K (.ref C) f = some none ∧ cls = .ref C ∧ d = some dd ∧ H1 dd = some (.xd fs) ∧ fs.lookup f = some v ∧ Q v H1
theorem pe_xfA {X : Cx} {a : Addr} {oe : Obj} {cls : Value} {d : Option Addr} {pn : List (Addr × Obj)} {e : Expr} {te : TE} {pos : Pos} {n : Str}
    (hz : Zc cls d oe) (hf : ∃ vs, oe.data = .fields vs) (he : PE (X.suite a ((a, oe) :: pn)) e te) (hb : attributeBase e n X.env (eval e X.env) = eval e X.env := by rfl) :
    PE (X.suite a ((a, oe) :: pn)) (.Attribute e n pos) (tXfA X.K a cls d n te) := by
  refine ⟨fun pins s σ H Q I h => ?_⟩
  refine attr_of hb (thn (he.run pins s σ H _ I h) fun u s1 hh => ?_)
  obtain ⟨x, H1, I1, rx, ex, C, dd, fs, v, T, hno, ec, ed, ea, l, q⟩ := hh
  subst ex
  obtain rfl : u = Value.ref a := rx
  subst ec
  subst ed
  obtain ⟨ha, _⟩ := I1.pin (a, oe) (List.mem_append_left _ List.mem_cons_self)
  obtain ⟨vs, hd⟩ := hf
  have hx : ObjOk X.prog X.w H1 s1.heap dd (.xd fs) := I1.hok dd _ ea
  obtain ⟨mA, hns, hr⟩ := hx
  obtain ⟨od, ho, hl⟩ := lookIn_ns hns
  obtain ⟨u, hu, ru⟩ := RelO.some_of (v := v) (o := mA n) (by rw [← l]; exact hr n)
  have J : PySem.W.InstAt s1.heap a oe C (some od) := ⟨ha, hz.1, by unfold PySem.W.notCls; rw [hd] <;> rfl, by rw [hz.2]; exact ho⟩
  exact HandSPX.exc_get I1.kIn J T.ga T.gg T.exC (PySem.W.findObj_own T.hdC hno rfl (by rw [hl, hu])) (handed_of ru) ⟨v, H1, I1.tok _, ru, q⟩
/-! ### x(lambda: body), x a def that calls what it got -/
section
variable {X : Cx} {pins : List (Addr × Obj)} {σ : L2.St} {H HZ : Hp} {s s1 : Shared}
/-- x(), in the def that got the lambda; what it lets out is what is wished at the slots there -/
theorem pe_actS {CXg : CXT} {Eg : XK} {Ng : List Str} {qg : Str} {sg : Scope} {g f c' : Addr} {cdg pm ctv : Value} {params : Arguments} {body : Expr} {scope : Scope} {k i : Nat} {a : Str} {pn : List (Addr × Obj)} {xe : Value → Shared → Prop} {W : WX} {tb : XK → TE} {p1 p2 : Pos}
    (I : Inv X pins σ H s) (L : LamX.LamS X.env.scope scope) (hf : s.heap.get? f = some (PySem.W.kla_obj "<lambda>" (X.env.qual ++ "<lambda>") params body scope (cloFrom X.env.cells scope.names []) pm c' ctv)) (hfn : H f = none) (hfr : f ∉ frs X.stack)
    (hbind : bindArgs (PySem.W.kla_fn "<lambda>" (X.env.qual ++ "<lambda>") params body scope (cloFrom X.env.cells scope.names []) pm (.ref c') ctv) ⟨[], []⟩ = pure [])
    (tk : Takes ((cxOf CXg X.prog X.w X.K X.mg X.base Ng qg sg g cdg X.A X.stack s H Eg).tr pn xe) W) (hr : Room (k + 1) (X.A.deeper (envOfC qg sg s.heap.objs.size g cdg)))
    (hbody : ∀ (A : Around) (outer : List Env) (s : Shared) (H : Hp) (E : XK), Room k (A.deeper (LamX.lamEnv X scope s.heap.objs.size f c')) → PE (LamX.lamCx X A outer s H E scope f c') body (tb E))
    (hN : Ng[i]? = some a) (hv : Vis sg a) (hd : (a == ("__debug__" : Str)) = false := by decide) (hcd : (a == ("__classdict__" : Str)) = false := by decide) :
    PE ((cxOf CXg X.prog X.w X.K X.mg X.base Ng qg sg g cdg X.A X.stack s H Eg).tr pn xe) (.Call (.Name a p1) [] [] p2)
      (fun σZ HZ Q => σZ[i]? = some (some (.ref f)) ∧ HZ c' = some (LamX.CodeO c' (X.env.qual ++ "<lambda>")) ∧ tb (WE W σZ) σ HZ Q) := by
  refine ⟨fun pinsZ sZ σZ HZ Q IZ h => ?_⟩
  obtain ⟨hs, hc, ht⟩ := h
  refine wpAny_Call_Name_kw (thn ((pe_var (pos := p1) (i := i) hN hv hd hcd).run pinsZ sZ σZ HZ (fun v H1 => v = .ref f ∧ H1 = HZ) IZ ⟨.ref f, hs, rfl, rfl⟩) fun u s1 ⟨v, H1, I1, r1, q1⟩ => ?_)
  obtain ⟨ev, eH⟩ := q1
  subst ev
  rw [eH] at I1
  obtain rfl : u = Value.ref f := r1
  have of1 : s1.heap.get? f = some (PySem.W.kla_obj "<lambda>" (X.env.qual ++ "<lambda>") params body scope (cloFrom X.env.cells scope.names []) pm c' ctv) := I1.base.keep f _ hf hfn hfr (fun z => nomatch (show f ∈ ([] : List Addr) from z))
  refine PySem.W.callWith_F0 ⟨_, _, _, _, of1⟩ ?_
  have un : Un (frs X.stack) [] H HZ s.heap s1.heap := I1.base
  obtain ⟨⟨oc, vs, t, hoc, hdc, hvc⟩, _, _⟩ := I1.hok c' _ hc
  have rc : codeAny (model X.prog X.w) (X.A.deeper (envOfC qg sg s.heap.objs.size g cdg)) (.call (.ref f) ⟨[], []⟩) (CR (L2.CX X.prog X.w) (envOfC qg sg s.heap.objs.size g cdg :: X.stack) X.prog X.w HZ s1 Q (WE W σZ)) s1 := by
    refine PySem.W.kla_callFunE hr.depth of1 rfl L.co L.gen rfl ⟨c', oc, vs, t, rfl, hoc, hdc, hvc⟩ ?_
    rw [hbind]
    refine wpAny_pure (wpAny_newFunctionEnv (fun y hy => (L.own y hy).2) (fun y hy => absurd hy (by simp)) (fun h₁ hns hsb => ⟨I1.nolimit.fresh _ hsb, ?_⟩) L.kind)
    show codeAny _ _ (.expr body (LamX.lamEnv X scope s1.heap.objs.size f c')) _ _
    have kp : ∀ b o, s1.heap.get? b = some o → h₁.get? b = some o := fun b o e => hsb.extBut b o (Nat.ne_of_lt (Heap.lt_size e)) (Heap.get?_push_of_some _ e)
    have J : Inv (LamX.lamCx X (X.A.deeper (envOfC qg sg s.heap.objs.size g cdg)) (envOfC qg sg s.heap.objs.size g cdg :: X.stack) s1 HZ (WE W σZ) scope f c') [] σ HZ { s1 with heap := h₁, toks := s1.toks + ([] : List (Str × Value)).length } :=
      LamX.lam_start2 I L I1.env0 hr.hd un hns kp
    refine PySem.W.kla_codeExpr (wpAny_mono ((hbody _ _ s1 HZ (WE W σZ) (hr.deeper _)).run [] _ _ HZ Q J ht) (fun v s' hq => ?_) fun e s' hq => hq)
    obtain ⟨w', H', J', rv, q⟩ := hq
    exact ⟨w', H', J'.os, J'.bare, J'.base, J'.hok, rv, q⟩
  have hx : PassesAt (L2.CX X.prog X.w) ((cxOf CXg X.prog X.w X.K X.mg X.base Ng qg sg g cdg X.A X.stack s H Eg).tr pn xe) σZ (WE W σZ) := passAt tk σZ
  refine wpAny_call (codeAny_mono rc fun r s' hq => ?_)
  cases r with
  | error e => exact hx pinsZ HZ s1 e s' I1 hq
  | ok fl =>
    cases fl with
    | ret u => exact I1.after hq
    | next => exact False.elim hq
    | brk => exact False.elim hq
    | cont => exact False.elim hq
end

def GivesR (X : Cx) (Ng : List Str) (x : Str) (sg : Scope) (g : Addr) (cdg : Value) (bg : List Stmt) (a : Str) (q : Str) (k : Nat) (TT : (XK → Hp → VK → Prop) → Hp → VK → Prop) : Prop :=
  ∀ (f c' : Addr) (s : Shared) (H : Hp) (Q : VK) (tl : XK → Hp → VK → Prop), Room k (X.A.deeper (envOfC x sg s.heap.objs.size g cdg)) →
    (∀ (W : WX) (pn : List (Addr × Obj)) (xe : Value → Shared → Prop) (p1 p2 : Pos), Takes ((cxOf C8.CX0 X.prog X.w X.K X.mg X.base Ng x sg g cdg X.A X.stack s H C8.E0).tr pn xe) W →
      PE ((cxOf C8.CX0 X.prog X.w X.K X.mg X.base Ng x sg g cdg X.A X.stack s H C8.E0).tr pn xe) (.Call (.Name a p1) [] [] p2) (fun σZ HZ Q => σZ[0]? = some (some (.ref f)) ∧ HZ c' = some (LamX.CodeO c' q) ∧ tl (WE W σZ) HZ Q)) →
    H c' = some (LamX.CodeO c' q) → TT tl H Q →
    ∃ t, PSs (cxOf C8.CX0 X.prog X.w X.K X.mg X.base Ng x sg g cdg X.A X.stack s H C8.E0).nox bg t ∧ t { nx := fun _ H' => Q .non H', rt := Q } (L2.start Ng [.ref f]) H
section
variable {X : Cx}
theorem pe_lamR {T : List (Addr × Str)} {TT : (XK → Hp → VK → Prop) → Hp → VK → Prop} {x a : Str} {g c P : Addr} {k : Nat} {pg : Arguments} {bg : List Stmt} {sg : Scope} {dV kV doc pm cdv ct oc : Value} {an od : Option Addr} {osl : Array (Option Value)} {Ng : List Str}
    {params : Arguments} {body : Expr} {scope : Scope} {t : XK → TE} {p lpos pos : Pos} (hg : Gl X x) (hm : X.mg x = some (.ref g)) (hk : PySem.W.keepIn X.K (.ref g) = true)
    (lk : X.K.lookup g = some ⟨oc, od, .func (PySem.W.fnOf x x pg bg sg dV kV doc pm an cdv ct), osl⟩) (hcg : PySem.W.codeIn X.K cdv x = true) (hb : L2.Binds X.K (PySem.W.fnOf x x pg bg sg dV kV doc pm an cdv ct) [a] []) (Sg : FnScope Ng [a] sg) (hNg : Ng[0]? = some a) (hva : Vis sg a)
    (hG : GivesR X Ng x sg g cdv bg a (X.env.qual ++ "<lambda>") (k + 1) TT)
    (TB : LamX.TabB X.base X.mg c P) (hcode : X.env.code = .ref c) (hmT : (P, X.env.qual ++ "<lambda>") ∈ T) (hu : ∀ p ∈ T, p.1 = P → p.2 = X.env.qual ++ "<lambda>") (hr : Room (k + 2) X.A) (L : LamX.LamS X.env.scope scope) (hdef : defaultsOf params X.env = ([], []))
    (hbind : ∀ (q : Str) (cl : List (Str × Addr)) (pm cv ctv : Value), bindArgs (PySem.W.kla_fn "<lambda>" q params body scope cl pm cv ctv) ⟨[], []⟩ = pure [])
    (hbody : ∀ (A : Around) (outer : List Env) (s : Shared) (H : Hp) (E : XK) (f c' : Addr), Room k (A.deeper (LamX.lamEnv X scope s.heap.objs.size f c')) → PE (LamX.lamCx X A outer s H E scope f c') body (t E))
    (hdb : (x == ("__debug__" : Str)) = false := by decide) (hd : (a == ("__debug__" : Str)) = false := by decide) (hcd : (a == ("__classdict__" : Str)) = false := by decide) :
    PE X (.Call (.Name x p) [.Lambda params body scope lpos] [] pos) (LamX.tLam T TT t) := by
  refine ⟨fun pins s σ H Q I h => ?_⟩
  obtain ⟨hT, h⟩ := h
  refine wpAny_Call_Name_kw (ld_glob I hg hm ?_ hdb)
  refine PySem.W.callWith_K (h₀ := X.base) I.ok.mod.kin hk ?_ (by rfl) (by rfl)
  show wpAny _ _ (spliced ((false, eval (.Lambda params body scope lpos) X.env) :: backTo pos (starEach [] X.env))) _ _ s
  refine Calls.spliced_cons (LamX.lam_make2 I TB hcode hmT hu hT hdef (L.has I.ok) fun f c' pm' ctv H1 s' I1 eN T1 hf hfn hfr hco => ?_)
  refine Calls.spliced_nil ⟨I1.kIn, ?_⟩
  have rc : codeAny (model X.prog X.w) X.A (.call (.ref g) ⟨[.ref f], []⟩) (CR C8.CX0 X.stack X.prog X.w H1 s' Q C8.E0) s' := by
    refine LamX.run_ofS (N := Ng) (ps := [a]) (us := [.ref f]) (vs := [.ref f]) lk hcg Sg hr I1.env0 (hb s' [.ref f] I1.kIn rfl) (.cons rfl .nil) rfl fun hr' => ?_
    obtain ⟨t', ht', hq'⟩ := hG f c' s' H1 Q (fun E H' Q' => t E σ H' Q') hr' (fun W pn xe p1 p2 tk => pe_actS (i := 0) I1 L hf hfn hfr (hbind _ _ _ _ _) tk hr' (fun A outer s H E hr2 => hbody A outer s H E f c' hr2) hNg hva hd hcd) hco (h H1 eN T1)
    exact ⟨t', ht'.nox, hq'⟩
  refine wpAny_call (codeAny_mono rc fun r s2 hq => ?_)
  cases r with
  | error e => exact (show False from hq).elim
  | ok fl =>
    cases fl with
    | ret u => exact I1.after hq
    | next => exact False.elim hq
    | brk => exact False.elim hq
    | cont => exact False.elim hq
end
/-! ### texts of refusals -/
theorem int_log {i : Int} (h : i.natAbs < 2 ^ 64) : i.natAbs.log2 < 1920 := by
  by_cases z : i.natAbs = 0
  · rw [z]
    decide
  · have := (Nat.log2_lt z).mpr h
    omega
theorem int_len {i : Int} (h : i.natAbs < 2 ^ 64) : (Str.ofString (toString i)).length ≤ 1921 := PyProof.Rows.int_text_len_1921 (int_log h)
theorem str_add {a b : Str} {n m : Nat} (ha : a.length ≤ n) (hb : b.length ≤ m) : (a ++ b).length ≤ n + m := by
  rw [PySem.Str.length_append]
  omega
theorem str_fits {a : Str} {n : Nat} (h : a.length ≤ n) (hn : n ≤ 100000) : a.length ≤ sizeLine := by
  rw [sizeLine_eq]
  omega
/-! ### tables of code objects -/
theorem tabs_to {T : List (Addr × Str)} {H H' : Hp} (t : LamX.Tabs T H) (e : ∀ b o, H b = some o → ((∃ ps, o = .tbl ps) ∨ ∃ c q, o = LamX.CodeO c q) → H' b = some o) : LamX.Tabs T H' := fun p hp => by
  obtain ⟨ps, h1, h2, h3⟩ := t p hp
  refine ⟨ps, e _ _ h1 (.inl ⟨ps, rfl⟩), h2, fun pos cv hc => ?_⟩
  obtain ⟨c, e1, e2⟩ := h3 pos cv hc
  exact ⟨c, e1, e _ _ e2 (.inr ⟨c, p.2, rfl⟩)⟩
theorem tabs_put {T : List (Addr × Str)} {H : Hp} {p : Addr} {o0 o : HO} (t : LamX.Tabs T H) (h : H p = some o0) (n1 : ∀ ps, HO.tbl ps ≠ o0) (n2 : ∀ c q, LamX.CodeO c q ≠ o0) : LamX.Tabs T (upd H p o) := tabs_to t fun b u e k => by
  rw [upd_ne fun z => ?_]
  · exact e
  · rw [z, h] at e
    have e2 := Option.some.inj e
    rcases k with ⟨ps, z2⟩ | ⟨c, q, z2⟩
    · exact n1 ps (z2.symm.trans e2.symm)
    · exact n2 c q (z2.symm.trans e2.symm)
theorem code_lst {c : Addr} {q : Str} {xs : List V} : LamX.CodeO c q ≠ .lst xs := fun z => by
  unfold LamX.CodeO at z
  cases z
theorem code_dK {c : Addr} {q : Str} {kvs : List (Key × V)} : LamX.CodeO c q ≠ .dK kvs := fun z => by
  unfold LamX.CodeO at z
  cases z
theorem code_ins {c C : Addr} {q : Str} {dx : Addr} {fs : List (Str × V)} : LamX.CodeO c q ≠ .ins C dx fs := fun z => by
  unfold LamX.CodeO at z
  cases z
theorem tabs_same {T : List (Addr × Str)} {H H' : Hp} (t : LamX.Tabs T H) (s : Same H H') : LamX.Tabs T H' := t.ext s
theorem extN_same {H H' : Hp} (s : Same H H') : LamX.ExtN H H' := .of s
theorem _root_.LamX.ExtN.lst {H H' : Hp} (e : LamX.ExtN H H') {p : Addr} {xs : List V} (h : H p = some (.lst xs)) : H' p = some (.lst xs) := e _ _ h fun _ z => by cases z
theorem _root_.LamX.ExtN.seqT {K : PySem.W.Frag} {H H' : Hp} {a : Addr} {xs : List V} (e : LamX.ExtN H H') (h : SqT K H a xs) : SqT K H' a xs := by
  rcases h with (h | ⟨o, h⟩) | h
  · exact .inl (.inl (e _ _ h fun _ z => by cases z))
  · exact .inl (.inr ⟨o, e _ _ h fun _ z => by cases z⟩)
  · exact .inr h
theorem _root_.LamX.ExtN.seqL {K : PySem.W.Frag} {H H' : Hp} {a : Addr} {xs : List V} (e : LamX.ExtN H H') (h : SqL K H a xs) : SqL K H' a xs := by
  rcases h with (h | ⟨o, h⟩) | h
  · exact .inl (.inl (e _ _ h fun _ z => by cases z))
  · exact .inl (.inr ⟨o, e _ _ h fun _ z => by cases z⟩)
  · exact .inr h
section
variable {P : Program} {w : World} {K : PySem.W.Frag} {mg : Str → Option Value} {base : Heap}
/-- THE RULE for a def whose code object is at c -/
theorem okT {x : Str} {st : Stmt} {N ps : List Str} {k : Nat} {sp : Sp} {f c : Addr} {fd : FuncData} (F : FunD K x x (defArgs st) (defBody st) (defScope st) [] [] f fd) (hc : fd.code = .ref c) (S : FnScope N ps (defScope st)) (len : ∀ vs H Q E, sp vs H Q E → vs.length = ps.length)
    (hbody : ∀ (A : Around) (outer : List Env) (s : Shared) (H : Hp) (vs : List V) (Q : VK) (E : XK), Room k (A.deeper (envOfC x (defScope st) s.heap.objs.size f (.ref c))) → sp vs H Q E →
      ∃ t, PSs (cxOf CX0 P w K mg base N x (defScope st) f (.ref c) A outer s H E).nox (defBody st) t ∧ t { nx := fun _ H' => Q .non H', rt := Q } (start N vs) H) : FnOk P w K mg base CX0 (k + 1) f fd ps sp := by
  obtain ⟨oc, od, dV, kV, doc, pm, an, cdv, ct, osl, rfl, lk, hcd, _, _⟩ := F.ex
  have e : cdv = .ref c := hc
  subst e
  exact fn_of lk hcd S len fun A outer s H vs Q E hr hsp => by
    obtain ⟨t, h, q⟩ := hbody A outer s H vs Q E hr hsp
    exact ⟨t, h.nox, q⟩
end
/-- the end of a law with tables, the written part given by F -/
theorem walk_ofTE {l : PySem.W.OpenLaw} {n k : Nat} {q : Program} {loose : List Str} {XP : (Str → Option Value) → Heap → Prop} {YP : World → Heap → Prop} {d : DefRec} {CX : World → CXT} {x : Str}
    (hn : l.most = some n) (hn2 : n ≤ sizeLine) (hdf : d.params.defaults = []) (hr : Room k callerA)
    (F : ∀ (w : World) (mg : Str → Option Value) (fa : Addr) (h : Heap), YP w h → h.Ns mainGlobals mg → mg d.name = some (.ref fa) → ∃ K : PySem.W.Frag, K.In h ∧ LamX.LawAtS l w K (CX w) k n x mg fa h)
    (hCX : ∀ (w : World) (H : Hp) (s : Shared) (e : Value) (s' : Shared), CX w [] H s (fun _ _ _ => False) e s' → False) :
    PySem.W.WalkO q loose XP YP l.row.toRowW d [] (fun f vs => PySem.call f vs) := by
  refine Att.attach_callB hn hdf fun w s₀ s₁ mg mb fa o pm cd doc a vs ns G Y ho hd hcd hmg hobj hints hlen hbits hg => ?_
  obtain ⟨K, KX, fd, cs, sp, hT, nT, C, hb, hsp, hF⟩ := F w mg fa _ Y G.T.g hmg
  exact LamX.law_callTs KX G.T.g G.T.b G.T.builtins G.T.nolimit hg hT nT C G.T.bmain hobj hints (Nat.le_trans hlen hn2) hr hF hb (fun H hH hS => hsp H a ns hlen hbits hH hS) fun H e s' => hCX w H s₁ e s'
theorem tabs_start {cs : List (Addr × Addr)} {T : List (Addr × Str)} {H : Hp} (hT : ∀ p ∈ cs, H p.2 = some (.tbl #[])) (hs : ∀ q ∈ T, ∃ p ∈ cs, p.2 = q.1) : LamX.Tabs T H := fun q hq => by
  obtain ⟨p, hp, e⟩ := hs q hq
  exact LamX.TabS.nil (e ▸ hT p hp)
end K3

set_option Elab.async false
set_option linter.all false
set_option maxRecDepth 100000
set_option maxHeartbeats 4000000
/-! KL: lambdas as values: kept in lists, handed to defs, called there; some with a default -/
namespace K3
open PySem PySem.Spec PyProof.Rows L2
/-- a lambda's object -/
def LamO (f : Addr) (q : Str) (params : Arguments) (body : Expr) (scope : Scope) (clos : List (Str × Addr)) (dV : Value) (c' : Addr) : HO := .ext fun h => ∃ doc pm ctv : Value, h.get? f = some (PySem.W.kdv_obj "<lambda>" q params (.expr body) scope clos dV doc pm c' ctv)
/-- .. made in the context X, its code object at c', its defaults dvs -/
def LamAt (X : Cx) (H : Hp) (f c' : Addr) (params : Arguments) (body : Expr) (scope : Scope) (dvs : List V) : Prop :=
  ∃ dV : Value, H f = some (LamO f (X.env.qual ++ "<lambda>") params body scope (cloFrom X.env.cells scope.names []) dV c') ∧ H c' = some (LamX.CodeO c' (X.env.qual ++ "<lambda>")) ∧ ((dvs = [] ∧ dV = .none) ∨ (dvs ≠ [] ∧ ∃ t, dV = .ref t ∧ H t = some (.tup dvs)))
theorem LamAt.same {X : Cx} {H H' : Hp} {f c' : Addr} {params : Arguments} {body : Expr} {scope : Scope} {dvs : List V} (h : LamAt X H f c' params body scope dvs) (s : Same H H') : LamAt X H' f c' params body scope dvs := by
  obtain ⟨dV, h1, h2, h3⟩ := h
  refine ⟨dV, s _ _ h1, s _ _ h2, ?_⟩
  rcases h3 with z | ⟨z, t, e, ht⟩
  · exact .inl z
  · exact .inr ⟨z, t, e, s _ _ ht⟩
theorem lamO_ne {f c' : Addr} {q : Str} {params : Arguments} {body : Expr} {scope : Scope} {clos : List (Str × Addr)} {dV : Value} (ps : Array Value) : LamO f q params body scope clos dV c' ≠ .tbl ps := fun z => by
  unfold LamO at z
  cases z
theorem LamAt.extN {X : Cx} {H H' : Hp} {f c' : Addr} {params : Arguments} {body : Expr} {scope : Scope} {dvs : List V} (h : LamAt X H f c' params body scope dvs) (s : LamX.ExtN H H') : LamAt X H' f c' params body scope dvs := by
  obtain ⟨dV, h1, h2, h3⟩ := h
  refine ⟨dV, s _ _ h1 lamO_ne, s _ _ h2 LamX.codeO_ne, ?_⟩
  rcases h3 with z | ⟨z, t, e, ht⟩
  · exact .inl z
  · exact .inr ⟨z, t, e, s _ _ ht fun _ z => by cases z⟩
section
variable {X : Cx} {pins : List (Addr × Obj)} {σ : L2.St} {H : Hp} {s : Shared}
theorem lam_tail {T : List (Addr × Str)} {c P : Addr} {params : Arguments} {body : Expr} {scope : Scope} {pos : Pos} {dV : Value} {E : Value → Shared → Prop} {Q : Value → Shared → Prop} (I : Inv X pins σ H s) (TB : LamX.TabB X.base X.mg c P) (hcode : X.env.code = .ref c)
    (hm : (P, X.env.qual ++ "<lambda>") ∈ T) (hu : ∀ p ∈ T, p.1 = P → p.2 = X.env.qual ++ "<lambda>") (hT : LamX.Tabs T H) (hfree : ∀ y ∈ scope.names, y.2 = .free → ∃ c, X.env.cells.lookup y.1 = some c)
    (h : ∀ (f c' : Addr) (H1 : Hp) (s' : Shared), Inv X pins σ H1 s' → LamX.ExtN H H1 → LamX.Tabs T H1 →
      H1 f = some (LamO f (X.env.qual ++ "<lambda>") params body scope (cloFrom X.env.cells scope.names []) dV c') → H1 c' = some (LamX.CodeO c' (X.env.qual ++ "<lambda>")) → Q (.ref f) s') :
    wpAny (model X.prog X.w) X.A (makeTail "<lambda>" (X.env.qual ++ "<lambda>") params (.expr body) scope X.env dV .none none pos pos.line) Q E s := by
  obtain ⟨ps, hP, ht, ha⟩ := hT _ hm
  have bP : s.heap.BuiltinsAt X.mg P := TB.bm.keeps I.bk
  have hP' : s.heap.get? P = some { cls := .none, data := .fields ps } := I.hok P _ hP
  -- behind the code object: the function object is new
  have last : ∀ {H1 : Hp} {h' : Heap} {tk : Nat} {doc pm ctv : Value} {c' : Addr}, Inv X pins σ H1 { s with heap := h', toks := tk } → LamX.ExtN H H1 → LamX.Tabs T H1 → H1 c' = some (LamX.CodeO c' (X.env.qual ++ "<lambda>")) →
      Q (.ref h'.objs.size) { s with heap := h'.push (PySem.W.kdv_obj "<lambda>" (X.env.qual ++ "<lambda>") params (.expr body) scope (cloFrom X.env.cells scope.names []) dV doc pm c' ctv), toks := tk } := fun {H1 h' tk doc pm ctv c'} I1 e1 t1 hc => by
    have hn : H1 h'.objs.size = none := I1.hok.fresh (Nat.le_refl _)
    refine h h'.objs.size c' (upd H1 h'.objs.size (LamO h'.objs.size (X.env.qual ++ "<lambda>") params body scope (cloFrom X.env.cells scope.names []) dV c')) _ (I1.laid (t' := tk) (fun b u e => Heap.get?_push_of_some _ e) (Nat.le_refl _) ?_) (e1.trans (.of (Same.upd hn))) (t1.ext (Same.upd hn)) upd_same (Same.upd hn _ _ hc)
    exact ⟨⟨doc, pm, ctv, Heap.get?_push_size _ rfl⟩, ⟨_, Heap.get?_push_size _ rfl⟩, fun h1 h2 ⟨d, p, t, e⟩ st => ⟨d, p, t, st _ e⟩⟩
  cases hc : codeAmong pos ps.toList with
  | none =>
    refine PySem.W.kdv_makeTail (mg := X.mg) (c := c) (P := P) (ps := ps) (closure_ok hfree) I.ok.glob (I.mod.glob.keeps I.bk) hcode (TB.code.keeps I.bk) hP' ht hc TB.gP bP fun c' ctv doc h' tk hx hge hlt hrec htb => ?_
    obtain ⟨c2, oc, vs, t, e2, hoc, hd, hv⟩ := hrec
    cases e2
    have nC : H c' = none := I.hok.fresh hge
    have I1 := LamX.inv_table (t' := tk) (more := #[rawInt pos.line, rawInt pos.col, .ref c']) (h' := h') I hP (fun b o hb e => hx b o hb e) htb hge ⟨oc, vs, t, hoc, hd, hv⟩
    have hE : LamX.ExtN H (upd (upd H P (.tbl (ps ++ #[rawInt pos.line, rawInt pos.col, .ref c']))) c' (LamX.CodeO c' (X.env.qual ++ "<lambda>"))) := fun b o e n => by
      rw [upd_ne (ne_of_none e nC), upd_ne (fun z => n ps (Option.some.inj (e.symm.trans (by rw [z]; exact hP))))]
      exact e
    have eL : (ps ++ #[rawInt pos.line, rawInt pos.col, .ref c']).toList = ps.toList ++ [rawInt pos.line, rawInt pos.col, .ref c'] := by simp
    refine last I1 hE (fun p hp => ?_) upd_same
    by_cases hb : p.1 = P
    · rw [hu p hp hb, hb]
      refine ⟨_, by rw [upd_ne (ne_of_none hP nC), upd_same], by rw [eL]; exact PySem.TriplesOk_snoc _ _ _ _ ht, fun p' cv hcv => ?_⟩
      rw [eL] at hcv
      rcases LamX.among_app _ ht hcv with z | z
      · obtain ⟨c0, e1, e2⟩ := ha p' cv z
        exact ⟨c0, e1, hE _ _ e2 LamX.codeO_ne⟩
      · exact ⟨c', z, upd_same⟩
    · obtain ⟨ps', a1, a2, a3⟩ := hT p hp
      refine ⟨ps', by rw [upd_ne (ne_of_none a1 nC), upd_ne hb]; exact a1, a2, fun p' cv hcv => ?_⟩
      obtain ⟨c0, e1, e2⟩ := a3 p' cv hcv
      exact ⟨c0, e1, hE _ _ e2 LamX.codeO_ne⟩
  | some cv =>
    obtain ⟨c', e, hco⟩ := ha pos cv hc
    subst e
    refine PySem.W.kdv_makeTailHit (mg := X.mg) (c := c) (P := P) (ps := ps) (closure_ok hfree) I.ok.glob (I.mod.glob.keeps I.bk) hcode (TB.code.keeps I.bk) hP' ht hc bP fun ctv doc h' tk hx hsz => ?_
    exact last (I.kept hx) (.refl H) hT hco
/-- lambda: e, as a value -/
def tLamV (X : Cx) (T : List (Addr × Str)) (params : Arguments) (body : Expr) (scope : Scope) (dvs : List V) : TE := fun _ H Q => LamX.Tabs T H ∧ ∀ f c' H1, LamX.ExtN H H1 → LamX.Tabs T H1 → LamAt X H1 f c' params body scope dvs → Q (.ref f) H1
theorem pe_lam0 {T : List (Addr × Str)} {c P : Addr} {params : Arguments} {body : Expr} {scope : Scope} {pos : Pos} (TB : LamX.TabB X.base X.mg c P) (hcode : X.env.code = .ref c)
    (hm : (P, X.env.qual ++ "<lambda>") ∈ T) (hu : ∀ p ∈ T, p.1 = P → p.2 = X.env.qual ++ "<lambda>") (hfree : ∀ y ∈ scope.names, y.2 = .free → X.env.scope.names.lookup y.1 = some .cell ∨ X.env.scope.names.lookup y.1 = some .free) (hdef : defaultsOf params X.env = ([], [])) :
    PE X (.Lambda params body scope pos) (tLamV X T params body scope []) := by
  refine ⟨fun pins s σ H Q I h => ?_⟩
  obtain ⟨hT, h⟩ := h
  refine PySem.W.kla_eval hdef ?_
  rw [makeFunction_eq]
  simp only [List.zip_nil_right, List.filterMap_nil, List.isEmpty_nil, if_true, pure_bind]
  refine lam_tail I TB hcode hm hu hT (fun y hy e => ?_) fun f c' H1 s' I1 e1 t1 hf hc => ⟨.ref f, H1, I1, rfl, h f c' H1 e1 t1 ⟨.none, hf, hc, .inl ⟨rfl, rfl⟩⟩⟩
  rcases hfree y hy e with k | k
  · exact I.ok.has _ (.inl k)
  · exact I.ok.has _ (.inr k)
/-- .. with one default -/
theorem pe_lam1 {T : List (Addr × Str)} {c P : Addr} {params : Arguments} {d body : Expr} {i : Int} {scope : Scope} {pos : Pos} (TB : LamX.TabB X.base X.mg c P) (hcode : X.env.code = .ref c)
    (hm : (P, X.env.qual ++ "<lambda>") ∈ T) (hu : ∀ p ∈ T, p.1 = P → p.2 = X.env.qual ++ "<lambda>") (hfree : ∀ y ∈ scope.names, y.2 = .free → X.env.scope.names.lookup y.1 = some .cell ∨ X.env.scope.names.lookup y.1 = some .free)
    (hdef : params.defaults = [d]) (hk : params.kw_defaults = []) (hd : PE X d (fun _ H Q => Q (.int i) H)) :
    PE X (.Lambda params body scope pos) (tLamV X T params body scope [.int i]) := by
  refine ⟨fun pins s σ H Q I h => ?_⟩
  obtain ⟨hT, h⟩ := h
  refine PySem.W.kdv_lam (by rw [hdef]; rfl) hk ?_
  rw [hdef]
  refine PySem.W.kdv_all1 (thn (hd.run pins s σ H (fun v H1 => v = .int i ∧ H1 = H) I ⟨rfl, rfl⟩) fun u s1 ⟨v, H1, I1, r1, q1⟩ => ?_)
  obtain ⟨ev, eH⟩ := q1
  subst ev
  rw [eH] at I1
  refine PySem.W.kdv_all0 ?_
  rw [makeFunction_eq]
  simp only [List.zip_nil_right, List.filterMap_nil, List.isEmpty_nil, if_true, pure_bind, List.isEmpty_cons, Bool.false_eq_true, if_false]
  have hn : H s1.heap.objs.size = none := I1.hok.fresh (Nat.le_refl _)
  refine wpAny_bind (wpAny_newTextTuple ?_)
  have I2 : Inv X pins σ (upd H s1.heap.objs.size (.tup [.int i])) { s1 with heap := s1.heap.push { cls := .type "tuple", data := .seq [u].toArray } } := I1.laid (t' := s1.toks) (fun b u e => Heap.get?_push_of_some _ e) (Nat.le_refl _) ⟨by show 1 ≤ sizeLine; decide, [u], .cons r1 .nil, ⟨_, Heap.get?_push_size _ rfl, rfl, _, rfl⟩⟩
  refine lam_tail I2 TB hcode hm hu (hT.ext (Same.upd hn)) (fun y hy e => ?_) fun f c' H1 s' I1 e1 t1 hf hc => ⟨.ref f, H1, I1, rfl, h f c' H1 ((LamX.ExtN.of (Same.upd hn)).trans e1) t1 ⟨_, hf, hc, .inr ⟨by simp, _, rfl, e1 _ _ upd_same fun _ z => by cases z⟩⟩⟩
  rcases hfree y hy e with k | k
  · exact I2.ok.has _ (.inl k)
  · exact I2.ok.has _ (.inr k)
end
/-! ### calling one: where the maker's cells stand in the base -/
/-- no name of its own but parameters -/
structure LamP (N : List Str) (sc scope : Scope) (ps : List Str) : Prop where
  kind : scope.kind = .function
  co : scope.isCoroutine = false
  gen : scope.isGenerator = false
  own : ∀ y ∈ scope.names, y.2 ≠ .cell ∧ (y.2 = .local → y.1 ∉ N)
  free : ∀ y ∈ scope.names, y.2 = .free → sc.names.lookup y.1 = some .cell ∨ sc.names.lookup y.1 = some .free
  par : ∀ p ∈ ps, scope.names.lookup p = some .local
def lamPB (N : List Str) (sc scope : Scope) (ps : List Str) : Bool :=
  decide (scope.kind = .function) && !scope.isCoroutine && !scope.isGenerator && (scope.names.all fun y => !decide (y.2 = .cell) && (!decide (y.2 = .local) || decide (y.1 ∉ N)) && (!decide (y.2 = .free) || decide (sc.names.lookup y.1 = some .cell) || decide (sc.names.lookup y.1 = some .free))) &&
    ps.all fun p => decide (scope.names.lookup p = some .local)
theorem lamP_by {N : List Str} {sc scope : Scope} {ps : List Str} (h : lamPB N sc scope ps = true) : LamP N sc scope ps := by
  unfold lamPB at h
  simp only [Bool.and_eq_true, Bool.or_eq_true, Bool.not_eq_true', decide_eq_true_eq, decide_eq_false_iff_not, List.all_eq_true] at h
  obtain ⟨⟨⟨⟨h1, h2⟩, h3⟩, h4⟩, h5⟩ := h
  refine ⟨h1, h2, h3, fun y hy => ⟨(h4 y hy).1.1, fun e => ?_⟩, fun y hy e => ?_, h5⟩
  · rcases (h4 y hy).1.2 with z | z
    · exact absurd e z
    · exact z
  · rcases (h4 y hy).2 with (z | z) | z
    · exact absurd e z
    · exact .inl z
    · exact .inr z
/-- how its parameters are bound: all by defaults -/
def LamB (params : Arguments) (body : Expr) (scope : Scope) (ps : List Str) (dvs : List V) : Prop :=
  (dvs = [] ∧ ∀ (q : Str) (cl : List (Str × Addr)) (doc pm cv ctv : Value), bindArgs (PySem.W.kdv_fn "<lambda>" q params (.expr body) scope cl .none doc pm cv ctv) ⟨[], []⟩ = pure []) ∨
  (dvs ≠ [] ∧ dvs.length = ps.length ∧ ∀ (q : Str) (cl : List (Str × Addr)) (t : Addr) (doc pm cv ctv : Value) (its : List Value), its.length = ps.length →
    ∃ k, bindArgs (PySem.W.kdv_fn "<lambda>" q params (.expr body) scope cl (.ref t) doc pm cv ctv) ⟨[], []⟩ = seqItems? (.ref t) >>= k ∧ k (some its.toArray) = pure (ps.zip its))
/-- f may be called without arguments wherever base stands -/
def CallB (P : Program) (w : World) (K : PySem.W.Frag) (mg : Str → Option Value) (base : Heap) (k : Nat) (f : Addr) (tl : XK → Hp → VK → Prop) : Prop :=
  ∀ (A : Around) (outer : List Env) (s : Shared) (H : Hp) (Q : VK) (E : XK), Room k A → Env0 P w K mg base A outer s H → tl E H Q →
    PySem.W.FnAt f s.heap ∧ codeAny (model P w) A (.call (.ref f) ⟨[], []⟩) (CR (L2.CX P w) outer P w H s Q E) s
/-- what the maker of lambdas tells of a base -/
def LamsOk (X : Cx) (σ : L2.St) (base' : Heap) : Prop :=
  Mod X.K X.mg base' ∧ ∀ {params : Arguments} {body : Expr} {scope : Scope} {ps : List Str} {dvs : List V} {k : Nat} {t : XK → TE} {f c' : Addr}, LamP X.N X.env.scope scope ps → LamB params body scope ps dvs →
    (∀ (A : Around) (outer : List Env) (s : Shared) (H : Hp) (E : XK), Room k (A.deeper (LamX.lamEnv X scope s.heap.objs.size f c')) → PE (LamX.lamCx X A outer s H E scope f c') body (t E)) →
    CallB X.prog X.w X.K X.mg base' (k + 1) f fun E HZ Q => LamAt X HZ f c' params body scope dvs ∧ t E σ HZ Q
section
variable {X : Cx} {pins : List (Addr × Obj)} {σ : L2.St} {H : Hp} {s : Shared}
/-- all that isn't tracked and is no frame -/
def bigB (X : Cx) (H : Hp) (h : Heap) : Heap := PySem.W.hideAll (hidT h H) (frs X.stack)
theorem bigB_get {b : Addr} {o : Obj} (e : s.heap.get? b = some o) (n : H b = none) (f : b ∉ frs X.stack) : (bigB X H s.heap).get? b = some o := PySem.W.hideAll_get _ (hidT_get e n) f
theorem of_bigB {b : Addr} {o : Obj} (e : (bigB X H s.heap).get? b = some o) : s.heap.get? b = some o ∧ H b = none := of_hidT (PySem.W.of_hideAll _ e)
theorem bigB_sub (I : Inv X pins σ H s) {b : Addr} {o : Obj} (e : X.base.get? b = some o) : (bigB X H s.heap).get? b = some o :=
  bigB_get (I.bs b o e).1 (I.bs b o e).2 fun z => by
    have := (Heap.FunFrames.mem I.stack z).1
    rw [e] at this
    cases this
theorem bigB_size : (bigB X H s.heap).objs.size = s.heap.objs.size := (PySem.W.hideAll_size _ _).trans (hidT_size _ _)
theorem funs_to {h b1 b2 : Heap} : ∀ {l : List Env}, h.FunFrames b1 l → (∀ L ∈ frs l, b2.get? L = none) → h.FunFrames b2 l
  | [], _, _ => trivial
  | env :: r, ⟨hk, ⟨L, o, hf, hn, ho, hd⟩, hr⟩, g => by
    have m : ∀ b ∈ frs r, b ∈ frs (env :: r) := fun b hb => by
      unfold frs at hb ⊢
      rw [List.filterMap_cons, hf]
      exact List.mem_cons_of_mem _ hb
    refine ⟨hk, ⟨L, o, hf, g L ?_, ho, hd⟩, funs_to hr fun b hb => g b (m b hb)⟩
    unfold frs
    rw [List.filterMap_cons, hf]
    exact List.mem_cons_self
theorem bigB_env0 (I : Inv X pins σ H s) : Mod X.K X.mg (bigB X H s.heap) ∧ Env0 X.prog X.w X.K X.mg (bigB X H s.heap) X.A X.stack s H := by
  have k : ∀ b o, X.base.get? b = some o → (bigB X H s.heap).get? b = some o := fun b o e => bigB_sub I e
  obtain ⟨mb, h1, h2⟩ := I.mod.blt
  have M : Mod X.K X.mg (bigB X H s.heap) := ⟨I.mod.kin.keeps k, I.mod.glob.keeps k, ⟨mb, h1.keeps k, h2⟩, I.mod.nolimit.keeps k⟩
  exact ⟨M, I.ok.frames, M, fun b o e => of_bigB e, Nat.le_of_eq bigB_size, funs_to I.stack fun b hb => PySem.W.hideAll_none _ hb, I.stkFree, I.hok, I.bare⟩
theorem lam_startB {A : Around} {outer : List Env} {E : XK} {scope : Scope} {f c' : Addr} {h₁ : Heap} {tk : Nat} {ps : List Str} {its : List Value} {s1 : Shared} {HZ : Hp} (I : Inv X pins σ H s) (hfn : ∀ x, X.fn x = true) (L : LamP X.N X.env.scope scope ps)
    (e0 : Env0 X.prog X.w X.K X.mg (bigB X H s.heap) A outer s1 HZ) (hd : A.handled = none)
    (hns : h₁.Ns s1.heap.objs.size fun y => (ps.zip its).reverse.lookup y) (kp : ∀ b o, s1.heap.get? b = some o → h₁.get? b = some o) :
    Inv (LamX.lamCx X A outer s1 HZ E scope f c') [] σ HZ { s1 with heap := h₁, toks := tk } := by
  have hfree : ∀ y ∈ scope.names, y.2 = .free → ∃ c, X.env.cells.lookup y.1 = some c := fun y hy e => by
    rcases L.free y hy e with k | k
    · exact I.ok.has _ (.inl k)
    · exact I.ok.has _ (.inr k)
  have cm : ∀ {y c}, (cloFrom X.env.cells scope.names []).lookup y = some c → X.env.cells.lookup y = some c := fun {y c} e => by
    rcases cloFrom_mem (PySem.mem_of_lookup e) with hm | ⟨h1, h2⟩
    · cases hm
    · obtain ⟨c1, hc⟩ := hfree _ h1 rfl
      have hc : X.env.cells.lookup y = some c1 := hc
      have e2 : c = c1 := by
        rw [h2, hc] <;> rfl
      rw [e2]
      exact hc
  have look : ∀ {y}, scope.names.lookup y = some .free → ∃ c, (cloFrom X.env.cells scope.names []).lookup y = some c := fun {y} hl => mem_lookup (cloFrom_has (cells := X.env.cells) (acc := []) (PySem.mem_of_lookup hl))
  -- a cell stands in the base
  have cellB : ∀ {y c o}, X.env.cells.lookup y = some c → s.heap.get? c = some o → s1.heap.get? c = some o ∧ HZ c = none := fun {y c o} e ho => by
    refine e0.bs c o (bigB_get ho (I.freeC y c e) fun z => ?_)
    rcases List.mem_cons.mp (I.stkSub c z) with z | z
    · exact I.cne y c e z
    · obtain ⟨_, o', ho', _⟩ := I.ok.funs.mem z
      exact absurd (Nat.lt_of_lt_of_le (Heap.lt_size ho') (I.ok.cab y c (hfn y) e)) (Nat.lt_irrefl _)
  have cellK : ∀ {y c} {v : Option Value}, X.env.cells.lookup y = some c → s.heap.IsCell c v → h₁.IsCell c v := fun {y c v} e ⟨o, ho, hdt⟩ => ⟨o, kp _ _ (cellB e ho).1, hdt⟩
  have noA : ∀ b : Addr, b ∉ (LamX.lamCx X A outer s1 HZ E scope f c').ex := fun b z => absurd (show b ∈ ([] : List Addr) from z) (by simp)
  refine ⟨⟨I.mod, L.kind, rfl, rfl, Nat.le_refl _, fun y z c e1 e2 => I.ok.inj y z c (cm e1) (cm e2), fun y hy => ?_, fun y c z _ => ?_, fun _ => hd, Around.frames_deeper e0.frames, .inr ⟨rfl, rfl⟩, fun b z => absurd z (noA b), fun b o e => e0.bs b o (bigB_sub I e), ?_, fun b _ _ => noA b,
      fun b z => absurd z (noA b), funs_to e0.funs fun b hb => ?_, e0.frf⟩,
    rfl, e0.bare, Un.kept kp, ⟨_, hns, fun i y v e1 e2 e3 => ?_⟩, fun y c e => ?_, e0.hok.fresh (Nat.le_refl _), fun y c e => ?_, fun q hq => absurd (show q ∈ ([] : List (Addr × Obj)) ++ [] from hq) (by simp), e0.hok.kept kp, I.len⟩
  · have hy : scope.names.lookup y = some .cell ∨ scope.names.lookup y = some .free := hy
    rcases hy with hy | hy
    · exact absurd rfl (L.own _ (PySem.mem_of_lookup hy)).1
    · exact look hy
  · have z : false = true := z
    cases z
  · exact Nat.le_trans (Nat.le_trans I.ok.bsz I.sz) (Nat.le_trans (Nat.le_of_eq bigB_size.symm) e0.bsz)
  · cases q : X.base.get? b with
    | none => exact q
    | some o =>
      have := (Heap.FunFrames.mem e0.funs hb).1
      rw [bigB_sub I q] at this
      cases this
  · have e3 : Vis scope y := e3
    have e1 : X.N[i]? = some y := e1
    rcases e3 with k | k | k
    · exact absurd (List.mem_of_getElem? e1) ((L.own _ (PySem.mem_of_lookup k)).2 rfl)
    · exact absurd rfl (L.own _ (PySem.mem_of_lookup k)).1
    · obtain ⟨m, hn, hl⟩ := I.loc
      have hvis : Vis X.env.scope y := (L.free _ (PySem.mem_of_lookup k) rfl).elim (fun k => .inr (.inl k)) (fun k => .inr (.inr k))
      obtain ⟨w', r, q⟩ := hl i y v e1 e2 hvis
      obtain ⟨c2, h2⟩ := look k
      refine ⟨w', r, .inr ⟨.inr k, c2, h2, ?_⟩⟩
      have c1 := cm h2
      rcases q with ⟨k', _⟩ | ⟨_, c3, e', z⟩
      · have k' : X.env.scope.names.lookup y = some .local := k'
        rcases L.free _ (PySem.mem_of_lookup k) rfl with k2 | k2 <;> rw [show X.env.scope.names.lookup y = _ from k2] at k' <;> cases k'
      · rw [c1] at e'
        cases e'
        exact cellK c1 z
  · obtain ⟨w', z⟩ := I.cell y c (cm e)
    exact ⟨w', cellK (cm e) z⟩
  · obtain ⟨v, o, ho, hdt⟩ := I.cell y c (cm e)
    exact (cellB (cm e) ho).2
theorem lams_ok (I : Inv X pins σ H s) (hfn : ∀ x, X.fn x = true) : LamsOk X σ (bigB X H s.heap) := by
  refine ⟨(bigB_env0 I).1, fun {params body scope ps dvs k t f c'} L B hbody A outer s1 HZ Q E hr e0 h => ?_⟩
  obtain ⟨⟨dV, hf, hc, hdv⟩, ht⟩ := h
  obtain ⟨⟨doc, pm, ctv, of1⟩, _, _⟩ := e0.hok f _ hf
  obtain ⟨⟨oc, vs, tk, hoc, hdc, hvc⟩, _, _⟩ := e0.hok c' _ hc
  have hb : ∃ its : List Value, (∀ y ∈ ps.zip its, scope.names.lookup y.1 = some .local) ∧ BindsTo s1 (PySem.W.kdv_fn "<lambda>" (X.env.qual ++ "<lambda>") params (.expr body) scope (cloFrom X.env.cells scope.names []) dV doc pm (.ref c') ctv) ⟨[], []⟩ (ps.zip its) := by
    have pz : ∀ {its : List Value}, ∀ y ∈ ps.zip its, scope.names.lookup y.1 = some .local := fun {its} ⟨a, b⟩ hy => L.par _ (List.of_mem_zip hy).1
    rcases B with ⟨e, hb⟩ | ⟨hne, hl, hb⟩
    · rcases hdv with ⟨_, z⟩ | ⟨z, _⟩
      · refine ⟨[], pz, ?_⟩
        rw [z, List.zip_nil_right]
        exact .of_eq (hb _ _ _ _ _ _)
      · exact absurd e z
    · rcases hdv with ⟨z, z2⟩ | ⟨_, tp, z, htp⟩
      · exact absurd z hne
      · obtain ⟨_, its, rv, ot, h1, h2, n, h3⟩ := e0.hok tp _ htp
        obtain ⟨k, e1, e2⟩ := hb (X.env.qual ++ "<lambda>") (cloFrom X.env.cells scope.names []) tp doc pm (.ref c') ctv its (rv.length.symm.trans hl)
        refine ⟨its, pz, ?_⟩
        rw [z]
        exact .of_defaults rfl h1 h3 e1 e2
  obtain ⟨its, hloc, hbt⟩ := hb
  refine ⟨⟨_, _, _, _, of1⟩, PySem.W.kla_callFunE hr.depth of1 rfl L.co L.gen rfl ⟨c', oc, vs, tk, rfl, hoc, hdc, hvc⟩ (hbt _ _ _ _ (wpAny_newFunctionEnv (fun y hy => (L.own y hy).1) hloc (fun h₁ hns hsb => ⟨((I.mod.nolimit.keeps fun b o e => (e0.bs b o (bigB_sub I e)).1)).fresh _ hsb, ?_⟩) L.kind))⟩
  show codeAny _ _ (.expr body (LamX.lamEnv X scope s1.heap.objs.size f c')) _ _
  have kp : ∀ b o, s1.heap.get? b = some o → h₁.get? b = some o := fun b o e => hsb.extBut b o (Nat.ne_of_lt (Heap.lt_size e)) (Heap.get?_push_of_some _ e)
  have J := lam_startB (E := E) (f := f) (c' := c') (tk := s1.toks + (ps.zip its).length) I hfn L e0 hr.hd hns kp
  refine PySem.W.kla_codeExpr (wpAny_mono ((hbody A outer s1 HZ E (hr.deeper _)).run [] _ _ HZ Q J ht) (fun v s' hq => ?_) fun e s' hq => hq)
  obtain ⟨w', H', J', rv, q⟩ := hq
  exact ⟨w', H', J'.os, J'.bare, J'.base, J'.hok, rv, q⟩
end
end K3

set_option Elab.async false
set_option linter.all false
set_option maxRecDepth 100000
set_option maxHeartbeats 4000000
/-! KY: the name of a refusal's class; what is told, or the refusal -/
namespace K3
open PySem PySem.Spec PyProof.Rows L2
structure TxtE (mg : Str → Option Value) : Prop where
  b_ValueError : mg "ValueError" = none
def cnms : List Str := ["BadNumber", "BadValues", "NoForm", "BadPrices", "BadKinds", "BadRows", "BadCondition", "BadColumn", "BadHeap", "TooMany", "BadBlock", "Stopped", "BadText"]
def cnm (i : Nat) : Str := cnms.getD i Str.empty
/-- the classes of refusals: theirs is at cs i, ColumnError at CE -/
structure Kinds (K : PySem.W.Frag) (mg : Str → Option Value) (cs : Nat → Addr) (CE : Addr) : Prop where
  g : ∀ i, i < 13 → mg (cnm i) = some (.ref (cs i))
  c : ∀ i, i < 13 → L2.ExcC K (cs i)
  k : ∀ i j, i < 13 → j < 13 → PySem.W.kitOne K (.ref (cs i)) (.ref (cs j)) = some (decide (i = j))
  v : ∀ i, i < 13 → PySem.W.kitOne K (.ref (cs i)) (.type "ValueError") = some true
  m : ∀ i, i < 13 → PySem.W.exmOne K (.ref (cs i)) (.ref CE) = some true
  ge : mg "ColumnError" = some (.ref CE)
  xf : ∀ i, i = 1 ∨ i = 5 ∨ i = 12 → XfC K (cs i) ∧ PySem.W.findIn K (.ref (cs i)) "place" = some none
def kb (i n : Nat) : List V := (List.range n).map fun j => V.bl (decide (i = j))
theorem kb_flat (i n : Nat) : (kb i n).all flatV = true := by
  unfold kb
  rw [List.all_map]
  exact List.all_eq_true.mpr fun _ _ => rfl
theorem kb_at {i j n : Nat} (h : j < n) : (kb i n)[j]? = some (.bl (decide (i = j))) := by
  unfold kb
  rw [List.getElem?_map, List.getElem?_range h]
  rfl
theorem kb_count : ∀ i, i < 13 → (kb i 13).countP (fun z => eqV z (.bl true)) = 1 := by decide
theorem cnm_at : ∀ {i : Nat}, i < 13 → (cnms.map V.str)[i]? = some (.str (cnm i)) := fun {i} h => by
  unfold cnm
  have hl : i < cnms.length := h
  rw [List.getElem?_map, List.getD_eq_getElem?_getD, List.getElem?_eq_getElem hl]
  rfl
section
variable {P : Program} {w : World} {K : PySem.W.Frag} {mg : Str → Option Value} {base : Heap}
abbrev s__law_class : Stmt := top 60
abbrev N__law_class : List Str := ["_law_e", "_law_kinds", "_law_words"]
abbrev P__law_class : List Str := ["_law_e"]
theorem sc__law_class : FnScope N__law_class P__law_class (defScope s__law_class) := ⟨rfl, rfl, rfl, by decide +kernel, rfl, by decide +kernel, by decide +kernel⟩
def spClass (K : PySem.W.Frag) (cs : Nat → Addr) : Addr × Obj → Sp := fun p vs H Q _ => ∃ (i : Nat) (d : Option Addr), i < 13 ∧ vs = [.ref p.1] ∧ Zc (.ref (cs i)) d p.2 ∧ (∃ fl, p.2.data = .fields fl) ∧ (∀ dd, d = some dd → ∃ fs, H dd = some (.xd fs)) ∧ ∀ H', Same H H' → Q (.str (cnm i)) H'
theorem ok_class {cs : Nat → Addr} {CE : Addr} (T : Txt mg) (TE : TxtE mg) (KS : Kinds K mg cs CE) (D : Df K mg "_law_class" s__law_class P__law_class) : Fnp P w K mg base CX0 1 "_law_class" P__law_class (spClass K cs) := by
  refine D.okP sc__law_class (fun p vs H Q E h => ?_) (fun f cdv A outer s H vs Q E p hr h => ?_)
  · obtain ⟨i, d, _, rfl, _⟩ := h
    rfl
  · obtain ⟨i, d, hi, rfl, hz, hf, hd, k⟩ := h
    have nd := sc__law_class.nd
    have keep : ∀ {H1}, Same H H1 → ∀ dd, d = some dd → ∃ fs, H1 dd = some (.xd fs) := fun {H1} s dd e => by
      obtain ⟨fs, h⟩ := hd dd e
      exact ⟨fs, s _ _ h⟩
    refine ⟨_, (pss_cons (ps_set (i := 1) nd rfl (by first | exact Or.inl rfl | exact Or.inr rfl) (pe_lst (pa_cons (pe_callB (call_isP List.mem_cons_self (KS.c i hi) hz hf) (by rfl) T.b_isinstance (by decide +kernel) (pa_cons (pv 0) (pa_cons (pe_glob (v := .ref (cs 0)) (by rfl) (KS.g 0 (by decide)) rfl) pa_nil))) (pa_cons (pe_callB (call_isP List.mem_cons_self (KS.c i hi) hz hf) (by rfl) T.b_isinstance (by decide +kernel) (pa_cons (pv 0) (pa_cons (pe_glob (v := .ref (cs 1)) (by rfl) (KS.g 1 (by decide)) rfl) pa_nil))) (pa_cons (pe_callB (call_isP List.mem_cons_self (KS.c i hi) hz hf) (by rfl) T.b_isinstance (by decide +kernel) (pa_cons (pv 0) (pa_cons (pe_glob (v := .ref (cs 2)) (by rfl) (KS.g 2 (by decide)) rfl) pa_nil))) (pa_cons (pe_callB (call_isP List.mem_cons_self (KS.c i hi) hz hf) (by rfl) T.b_isinstance (by decide +kernel) (pa_cons (pv 0) (pa_cons (pe_glob (v := .ref (cs 3)) (by rfl) (KS.g 3 (by decide)) rfl) pa_nil))) pa_nil))))))
  (pss_cons (ps_set (i := 1) nd rfl (by first | exact Or.inl rfl | exact Or.inr rfl) (pe_op op_cat (pv 1) (pe_lst (pa_cons (pe_callB (call_isP List.mem_cons_self (KS.c i hi) hz hf) (by rfl) T.b_isinstance (by decide +kernel) (pa_cons (pv 0) (pa_cons (pe_glob (v := .ref (cs 4)) (by rfl) (KS.g 4 (by decide)) rfl) pa_nil))) (pa_cons (pe_callB (call_isP List.mem_cons_self (KS.c i hi) hz hf) (by rfl) T.b_isinstance (by decide +kernel) (pa_cons (pv 0) (pa_cons (pe_glob (v := .ref (cs 5)) (by rfl) (KS.g 5 (by decide)) rfl) pa_nil))) (pa_cons (pe_callB (call_isP List.mem_cons_self (KS.c i hi) hz hf) (by rfl) T.b_isinstance (by decide +kernel) (pa_cons (pv 0) (pa_cons (pe_glob (v := .ref (cs 6)) (by rfl) (KS.g 6 (by decide)) rfl) pa_nil))) pa_nil))))))
  (pss_cons (ps_set (i := 1) nd rfl (by first | exact Or.inl rfl | exact Or.inr rfl) (pe_op op_cat (pv 1) (pe_lst (pa_cons (pe_callB (call_isP List.mem_cons_self (KS.c i hi) hz hf) (by rfl) T.b_isinstance (by decide +kernel) (pa_cons (pv 0) (pa_cons (pe_glob (v := .ref (cs 7)) (by rfl) (KS.g 7 (by decide)) rfl) pa_nil))) (pa_cons (pe_callB (call_isP List.mem_cons_self (KS.c i hi) hz hf) (by rfl) T.b_isinstance (by decide +kernel) (pa_cons (pv 0) (pa_cons (pe_glob (v := .ref (cs 8)) (by rfl) (KS.g 8 (by decide)) rfl) pa_nil))) (pa_cons (pe_callB (call_isP List.mem_cons_self (KS.c i hi) hz hf) (by rfl) T.b_isinstance (by decide +kernel) (pa_cons (pv 0) (pa_cons (pe_glob (v := .ref (cs 9)) (by rfl) (KS.g 9 (by decide)) rfl) pa_nil))) (pa_cons (pe_callB (call_isP List.mem_cons_self (KS.c i hi) hz hf) (by rfl) T.b_isinstance (by decide +kernel) (pa_cons (pv 0) (pa_cons (pe_glob (v := .ref (cs 10)) (by rfl) (KS.g 10 (by decide)) rfl) pa_nil))) pa_nil)))))))
  (pss_cons (ps_set (i := 1) nd rfl (by first | exact Or.inl rfl | exact Or.inr rfl) (pe_op op_cat (pv 1) (pe_lst (pa_cons (pe_callB (call_isP List.mem_cons_self (KS.c i hi) hz hf) (by rfl) T.b_isinstance (by decide +kernel) (pa_cons (pv 0) (pa_cons (pe_glob (v := .ref (cs 11)) (by rfl) (KS.g 11 (by decide)) rfl) pa_nil))) (pa_cons (pe_callB (call_isP List.mem_cons_self (KS.c i hi) hz hf) (by rfl) T.b_isinstance (by decide +kernel) (pa_cons (pv 0) (pa_cons (pe_glob (v := .ref (cs 12)) (by rfl) (KS.g 12 (by decide)) rfl) pa_nil))) pa_nil)))))
  (pss_cons (ps_set (i := 2) nd rfl (by first | exact Or.inl rfl | exact Or.inr rfl) (pe_lst (pa_cons pe_str (pa_cons pe_str (pa_cons pe_str (pa_cons pe_str (pa_cons pe_str (pa_cons pe_str (pa_cons pe_str (pa_cons pe_str pa_nil))))))))))
  (pss_cons (ps_set (i := 2) nd rfl (by first | exact Or.inl rfl | exact Or.inr rfl) (pe_op op_cat (pv 2) (pe_lst (pa_cons pe_str (pa_cons pe_str (pa_cons pe_str (pa_cons pe_str (pa_cons pe_str pa_nil))))))))
  (pss_one (ps_ret (pe_ifExp (PW.pt (pw_and (pt_cmpR op_eq (pe_bm PySem.F.plainAttrs_list PySem.F.slot_list_count PySem.F.type_list_count mt_lcountV (pv 1) (pa_cons pe_bl pa_nil)) pe_int (nomark _)) (pw_and1 (pt_val (pe_callB (call_isP List.mem_cons_self (KS.c i hi) hz hf) (by rfl) T.b_isinstance (by decide +kernel) (pa_cons (pv 0) (pa_cons (pe_bltn (v := .ty "ValueError") (by rfl) TE.b_ValueError (by decide +kernel) rfl) pa_nil))))))) (pe_ix ix_list (pv 2) (pe_bm PySem.F.plainAttrs_list PySem.F.slot_list_index PySem.F.type_list_index mt_index (pv 1) (pa_cons pe_bl pa_nil)) (fun _ _ => rfl)) pe_str))))))))), ?_⟩
    refine ⟨_, rfl, .ref (cs 0), .ref (cs 0), _, rfl, (fun _ r => r), KS.k i 0 hi (by decide), keep (Same.refl H), _, rfl, .ref (cs 1), .ref (cs 1), _, rfl, (fun _ r => r), KS.k i 1 hi (by decide), keep (Same.refl H), _, rfl, .ref (cs 2), .ref (cs 2), _, rfl, (fun _ r => r), KS.k i 2 hi (by decide), keep (Same.refl H), _, rfl, .ref (cs 3), .ref (cs 3), _, rfl, (fun _ r => r), KS.k i 3 hi (by decide), keep (Same.refl H), (by show 4 ≤ sizeLine; decide), fun l1 n1 => ?_⟩
    suffices hh : ∀ H1, Same H H1 → H1 l1 = some (.lst (kb i 4)) → _ from hh _ (Same.upd n1) upd_same
    intro H1 s1 h1
    refine ⟨_, rfl, _, rfl, .ref (cs 4), .ref (cs 4), _, rfl, (fun _ r => r), KS.k i 4 hi (by decide), keep s1, _, rfl, .ref (cs 5), .ref (cs 5), _, rfl, (fun _ r => r), KS.k i 5 hi (by decide), keep s1, _, rfl, .ref (cs 6), .ref (cs 6), _, rfl, (fun _ r => r), KS.k i 6 hi (by decide), keep s1, (by show 3 ≤ sizeLine; decide), fun l2 n2 => ?_⟩
    refine ⟨l1, l2, _, _, rfl, rfl, Same.upd n2 _ _ h1, upd_same, (by show 4 + 3 ≤ sizeLine; decide), fun r2 nr2 => ?_⟩
    suffices hh : ∀ H2, Same H H2 → H2 r2 = some (.lst (kb i 7)) → _ from hh _ ((s1.upd' n2).upd' nr2) upd_same
    intro H2 s2 h2
    refine ⟨_, rfl, _, rfl, .ref (cs 7), .ref (cs 7), _, rfl, (fun _ r => r), KS.k i 7 hi (by decide), keep s2, _, rfl, .ref (cs 8), .ref (cs 8), _, rfl, (fun _ r => r), KS.k i 8 hi (by decide), keep s2, _, rfl, .ref (cs 9), .ref (cs 9), _, rfl, (fun _ r => r), KS.k i 9 hi (by decide), keep s2, _, rfl, .ref (cs 10), .ref (cs 10), _, rfl, (fun _ r => r), KS.k i 10 hi (by decide), keep s2, (by show 4 ≤ sizeLine; decide), fun l3 n3 => ?_⟩
    refine ⟨r2, l3, _, _, rfl, rfl, Same.upd n3 _ _ h2, upd_same, (by show 7 + 4 ≤ sizeLine; decide), fun r3 nr3 => ?_⟩
    suffices hh : ∀ H3, Same H H3 → H3 r3 = some (.lst (kb i 11)) → _ from hh _ ((s2.upd' n3).upd' nr3) upd_same
    intro H3 s3 h3
    refine ⟨_, rfl, _, rfl, .ref (cs 11), .ref (cs 11), _, rfl, (fun _ r => r), KS.k i 11 hi (by decide), keep s3, _, rfl, .ref (cs 12), .ref (cs 12), _, rfl, (fun _ r => r), KS.k i 12 hi (by decide), keep s3, (by show 2 ≤ sizeLine; decide), fun l4 n4 => ?_⟩
    refine ⟨r3, l4, _, _, rfl, rfl, Same.upd n4 _ _ h3, upd_same, (by show 11 + 2 ≤ sizeLine; decide), fun r4 nr4 => ?_⟩
    suffices hh : ∀ H4, Same H H4 → H4 r4 = some (.lst (kb i 13)) → _ from hh _ ((s3.upd' n4).upd' nr4) upd_same
    intro H4 s4 h4
    refine ⟨(by show 8 ≤ sizeLine; decide), fun w1 nw1 => ?_⟩
    refine ⟨_, rfl, (by show 5 ≤ sizeLine; decide), fun w2 nw2 => ?_⟩
    refine ⟨w1, w2, _, _, rfl, rfl, Same.upd nw2 _ _ upd_same, upd_same, (by show 8 + 5 ≤ sizeLine; decide), fun w3 nw3 => ?_⟩
    suffices hh : ∀ H5, Same H H5 → H5 r4 = some (.lst (kb i 13)) → H5 w3 = some (.lst (cnms.map V.str)) → _ from hh _ (((s4.upd' nw1).upd' nw2).upd' nw3) (Same.upd nw3 _ _ (Same.upd nw2 _ _ (Same.upd nw1 _ _ h4))) upd_same
    intro H5 s5 h5 hw5
    refine ⟨_, rfl, .inl ⟨rfl, _, SqL.of h5⟩, r4, _, _, rfl, rfl, SqL.of h5, rfl, kb_flat i 13, ?_⟩
    rw [kb_count i hi]
    refine ⟨rfl, _, rfl, ?_⟩
    refine ite2 (fun _ => ?_) (fun c => absurd rfl c)
    refine ⟨_, rfl, .ty "ValueError", .type "ValueError", _, rfl, (fun _ r => r), KS.v i hi, keep s5, _, rfl, ?_⟩
    refine ite2 (fun _ => ?_) (fun c => absurd rfl c)
    refine ⟨_, rfl, _, rfl, .inl ⟨rfl, _, SqL.of h5⟩, r4, kb i 13, .bl true, i, .bl true, rfl, rfl, SqL.of h5, rfl, kb_flat i 13, ?_, rfl, fun m z hm hz => ?_, ?_⟩
    · rw [kb_at hi, decide_eq_true rfl]
    · rw [kb_at (by omega)] at hz
      obtain rfl := Option.some.inj hz
      rw [decide_eq_false (by omega)]
      rfl
    · exact ⟨w3, _, _, _, rfl, rfl, SqL.of hw5, atI_nat (cnm_at hi), k _ s5⟩
end
end K3

set_option Elab.async false
set_option linter.all false
set_option maxRecDepth 100000
set_option maxHeartbeats 4000000
/-! KZ: what a lambda tells, or its refusal -/
namespace K3
open PySem PySem.Spec PyProof.Rows L2
theorem _root_.L2.PE.imp {X : Cx} {e : Expr} {t t' : TE} (h : PE X e t) (m : ∀ σ H Q, t' σ H Q → t σ H Q) : PE X e t' := ⟨fun pins s σ H Q I q => h.run pins s σ H Q I (m _ _ _ q)⟩
theorem op_in_seqK {X : Cx} {K : PySem.W.Frag} (e : X.K = K) : OpR X (compareOp .In) (rIn K false) := by
  subst e
  exact op_in_seq
def tClass (cs : Nat → Addr) (a : Addr) (cls : Value) (d : Option Addr) : TE := fun σ H Q => ∃ i, σ[1]? = some (some (.ref a)) ∧ i < 13 ∧ cls = .ref (cs i) ∧ (∀ dd, d = some dd → ∃ fs, H dd = some (.xd fs)) ∧ ∀ H', Same H H' → Q (.str (cnm i)) H'
/-- a refusal as the law tells it: its class's name, its place or 0 -/
def Told (cs : Nat → Addr) (cls : Value) (d : Option Addr) (H' : Hp) (Q : VK) : Prop := ∃ (i : Nat) (pl : Int), i < 13 ∧ cls = .ref (cs i) ∧
  ((i ≠ 1 ∧ i ≠ 5 ∧ i ≠ 12 ∧ d = none ∧ pl = 0) ∨ ((i = 1 ∨ i = 5 ∨ i = 12) ∧ ∃ dd fs, d = some dd ∧ H' dd = some (.xd fs) ∧ fs.lookup ("place" : Str) = some (V.int pl))) ∧
  ∀ (H'' : Hp) (t : Addr), Same H' H'' → H' t = none → H'' t = some (.tup [.str (cnm i), .int pl]) → Q (.ref t) H''
def TTd (cs : Nat → Addr) : (XK → Hp → VK → Prop) → Hp → VK → Prop := fun tl H Q => ∀ E : XK, (∀ cls d H', Told cs cls d H' Q → E cls d H') → tl E H Q
theorem place_in : ∀ {i : Nat}, i < 13 → inV (.str (cnm i)) [V.str "BadValues", V.str "BadRows", V.str "BadText"] = decide (i = 1 ∨ i = 5 ∨ i = 12) := by decide
abbrev s__law_told : Stmt := top 61
abbrev N__law_told : List Str := ["_law_work", "_law_e", "_law_word"]
abbrev P__law_told : List Str := ["_law_work"]
theorem sc__law_told : FnScope N__law_told P__law_told (defScope s__law_told) := ⟨rfl, rfl, rfl, by decide +kernel, rfl, by decide +kernel, by decide +kernel⟩
theorem told_gives {X : Cx} {k : Nat} {cs : Nat → Addr} {CE : Addr} {g : Addr} {cdg : Value} {q : Str} (KS : Kinds X.K X.mg cs CE) (G_class : Fnp X.prog X.w X.K X.mg X.base CX0 1 "_law_class" P__law_class (spClass X.K cs)) :
    GivesR X N__law_told "_law_told" (defScope s__law_told) g cdg (defBody s__law_told) "_law_work" q (k + 1) (TTd cs) := by
  intro f c' s H Q tl hr act hc h
  have nd := sc__law_told.nd
  have hrS : ∀ a, L2H.RoomH 1 (((cxOf C8.CX0 X.prog X.w X.K X.mg X.base N__law_told "_law_told" (defScope s__law_told) g cdg X.A X.stack s H C8.E0).nox).suite a []).A := fun a => ⟨(hr.mono (by omega : 1 ≤ k + 1)).dp, (hr.mono (by omega : 1 ≤ k + 1)).un⟩
  refine ⟨_, (pss_one (ps_try_as (i := 1) (c := .ref CE) (n := "_law_e") (Wout := fun _ _ _ _ => False) rfl rfl nd rfl rfl ⟨rfl, by decide, .inl KS.ge⟩ takes0 (fun W pn xe tk _ => pss_one (ps_ret (act W pn xe _ _ tk))) (fun a oe cls d pn hz hf => pss_cons (ps_set (i := 2) nd rfl (Or.inl rfl) (PE.imp (t' := tClass cs a cls d) (pe_cP (E := fun _ => C8.E0) G_class (hrS a) List.mem_cons_self (fun _ _ _ _ _ _ _ h => h.elim) (pa_cons (pv 1) pa_nil)) (fun σ H Q ⟨i, hs, hi, hc, hd, k⟩ => ⟨.ref a, hs, i, d, hi, rfl, by rw [← hc]; exact hz, hf, hd, k⟩))) (pss_one (ps_ret (pe_tup (pa_cons (pv 2) (pa_cons (pe_ifExp (pt_cmpR (op_in_seqK (K := X.K) rfl) (pv 2) (pe_tup (pa_cons pe_str (pa_cons pe_str (pa_cons pe_str pa_nil)))) (by rfl)) (pe_xfA hz hf (pv 1)) pe_int) pa_nil)))))))), ?_⟩
  refine ⟨rfl, hc, h _ fun cls d H' ⟨i, pl, hi, ec, hd, k⟩ => ?_⟩
  subst ec
  refine ⟨true, KS.m i hi, fun _ a na => ?_, fun z => Bool.noConfusion z⟩
  have keep : ∀ dd, d = some dd → ∃ fs, H' dd = some (.xd fs) := fun dd e => by
    rcases hd with ⟨_, _, _, e0, _⟩ | ⟨_, dd', fs, e1, h1, _⟩
    · rw [e0] at e
      cases e
    · rw [e1] at e
      cases e
      exact ⟨fs, h1⟩
  refine ⟨i, rfl, hi, rfl, keep, fun H2 s2 => ?_⟩
  refine ⟨_, rfl, _, rfl, (by show 3 ≤ sizeLine; decide), fun t3 n3 => ?_⟩
  have s3 := s2.trans (Same.upd (o := .tup [.str "BadValues", .str "BadRows", .str "BadText"]) n3)
  refine ⟨t3, _, rfl, .inr (SqT.of upd_same), rfl, rfl, _, rfl, ?_⟩
  have e := place_in hi
  show if inV (.str (cnm i)) [V.str "BadValues", V.str "BadRows", V.str "BadText"] = true then _ else _
  rw [e]
  rcases hd with ⟨h1, h5, h12, ed, ep⟩ | ⟨hp, dd, fs, ed, hdd, hf⟩
  · rw [decide_eq_false (by omega)]
    refine ite2 (fun z => Bool.noConfusion (show false = true from z)) (fun _ => ?_)
    refine ⟨(by show 2 ≤ sizeLine; decide), fun t nt => ?_⟩
    subst ep
    exact k _ t (s3.upd' nt) (s3.free nt) upd_same
  · rw [decide_eq_true hp]
    refine ite2 (fun _ => ?_) (fun z => absurd rfl z)
    obtain ⟨x1, x2⟩ := KS.xf i hp
    refine ⟨_, rfl, rfl, cs i, dd, fs, .int pl, x1, x2, rfl, ed, s3 _ _ hdd, hf, (by show 2 ≤ sizeLine; decide), fun t nt => ?_⟩
    exact k _ t (s3.upd' nt) (s3.free nt) upd_same
/-! ### what is looked at in the head -/
def excCB (K : PySem.W.Frag) (D : Addr) : Bool :=
  decide (PySem.W.findIn K (.ref D) "__getattribute__" = some (some (.builtin "BaseException.__getattribute__"))) && (decide (PySem.W.findIn K (.ref D) "__getattr__" = some none) && (decide (PySem.W.subIn K (.ref D) (.type "BaseException") = some true) && (PySem.W.hasDictIn K D &&
  (decide (PySem.W.findIn K (.ref D) "__class__" = some (some (.builtin "object.__class__"))) && (decide (PySem.W.specialIn K (.builtin "object.__class__") "__get__" = some (some (.builtin "getset_descriptor.__get__"))) && (decide (PySem.W.takesIn K (.builtin "object.__class__") = some true) && decide (PySem.W.mroIn K D (.type "object") = some true)))))))
theorem excCB_ok {K : PySem.W.Frag} {D : Addr} (h : excCB K D = true) : L2.ExcC K D := by
  obtain ⟨h1, h⟩ := Bool.and_eq_true_iff.mp h
  obtain ⟨h2, h⟩ := Bool.and_eq_true_iff.mp h
  obtain ⟨h3, h⟩ := Bool.and_eq_true_iff.mp h
  obtain ⟨h4, h⟩ := Bool.and_eq_true_iff.mp h
  obtain ⟨h5, h⟩ := Bool.and_eq_true_iff.mp h
  obtain ⟨h6, h⟩ := Bool.and_eq_true_iff.mp h
  obtain ⟨h7, h8⟩ := Bool.and_eq_true_iff.mp h
  exact ⟨of_decide_eq_true h1, of_decide_eq_true h2, of_decide_eq_true h3, h4, of_decide_eq_true h5, of_decide_eq_true h6, of_decide_eq_true h7, of_decide_eq_true h8⟩
def kindB (K : PySem.W.Frag) (cs : Nat → Addr) (CE : Addr) (i : Nat) : Bool :=
  excCB K (cs i) && ((List.range 13).all (fun j => decide (PySem.W.kitOne K (.ref (cs i)) (.ref (cs j)) = some (decide (i = j)))) && (decide (PySem.W.kitOne K (.ref (cs i)) (.type "ValueError") = some true) && (decide (PySem.W.exmOne K (.ref (cs i)) (.ref CE) = some true) &&
  (if i = 1 ∨ i = 5 ∨ i = 12 then xfB K (cs i) && decide (PySem.W.findIn K (.ref (cs i)) "place" = some none) else true))))
def kindsB (K : PySem.W.Frag) (cs : Nat → Addr) (CE : Addr) : Bool := (List.range 13).all (kindB K cs CE)
theorem kinds_of {K : PySem.W.Frag} {mg : Str → Option Value} {cs : Nat → Addr} {CE : Addr} (h : kindsB K cs CE = true) (g : ∀ i, i < 13 → mg (cnm i) = some (.ref (cs i))) (ge : mg "ColumnError" = some (.ref CE)) : Kinds K mg cs CE := by
  have key : ∀ i, i < 13 → kindB K cs CE i = true := fun i hi => List.all_eq_true.mp h i (List.mem_range.mpr hi)
  have part : ∀ i, i < 13 → L2.ExcC K (cs i) ∧ (∀ j, j < 13 → PySem.W.kitOne K (.ref (cs i)) (.ref (cs j)) = some (decide (i = j))) ∧ PySem.W.kitOne K (.ref (cs i)) (.type "ValueError") = some true ∧ PySem.W.exmOne K (.ref (cs i)) (.ref CE) = some true ∧ (i = 1 ∨ i = 5 ∨ i = 12 → XfC K (cs i) ∧ PySem.W.findIn K (.ref (cs i)) "place" = some none) := fun i hi => by
    obtain ⟨h1, h⟩ := Bool.and_eq_true_iff.mp (key i hi)
    obtain ⟨h2, h⟩ := Bool.and_eq_true_iff.mp h
    obtain ⟨h3, h⟩ := Bool.and_eq_true_iff.mp h
    obtain ⟨h4, h5⟩ := Bool.and_eq_true_iff.mp h
    refine ⟨excCB_ok h1, fun j hj => of_decide_eq_true (List.all_eq_true.mp h2 j (List.mem_range.mpr hj)), of_decide_eq_true h3, of_decide_eq_true h4, fun hp => ?_⟩
    rw [if_pos hp] at h5
    obtain ⟨h6, h7⟩ := Bool.and_eq_true_iff.mp h5
    exact ⟨xfB_ok h6, of_decide_eq_true h7⟩
  exact ⟨g, fun i hi => (part i hi).1, fun i j hi hj => (part i hi).2.1 j hj, fun i hi => (part i hi).2.2.1, fun i hi => (part i hi).2.2.2.1, ge, fun i hp => (part i (by omega)).2.2.2.2 hp⟩
end K3

set_option Elab.async false
set_option linter.all false
set_option maxRecDepth 100000
set_option maxHeartbeats 4000000
/-! KI: refusals with a place: their own __init__ -/
namespace K3
open PySem PySem.Spec PyProof.Rows L2
/-- the refusals' common class, whose __init__ is ValueError's -/
structure ExcB (K : PySem.W.Frag) (mg : Str → Option Value) (CE : Addr) : Prop where
  g : mg "ColumnError" = some (.ref CE)
  s : PySem.W.specialIn K (.ref CE) "__getattribute__" = some (some (.builtin "type.__getattribute__"))
  r : PySem.W.readsIn K CE (.type "type") = true
  f : PySem.W.findCls K (.ref CE) (.type "type") "__init__" = some (.val (.builtin "ValueError.__init__"))
/-- a class of refusals with a place -/
structure ExcP (K : PySem.W.Frag) (mg : Str → Option Value) (x : Str) (st : Stmt) (C : Addr) : Prop where
  g : mg x = some (.ref C)
  o : OexC K C
  nf : PySem.W.findIn K (.ref C) "place" = some none
  ex : ∃ (fI : Addr) (fd : FuncData), FunD K "__init__" (x ++ ".__init__") (defArgs st) (defBody st) (defScope st) [] [] fI fd ∧ Binds K fd ["self", "place"] [] ∧ PySem.W.findIn K (.ref C) "__init__" = some (some (.ref fI)) ∧ PySem.W.typeIn K (.ref fI) = some (.type "function")
section
variable {X : Cx} {e : Expr} {es : List Expr} {ta : TA} {x : Str} {p1 p2 pos : Pos} {CE : Addr}
/-- ColumnError.__init__(self, ..) -/
theorem pe_ceinit {pl : Sem Bool} (B : ExcB X.K X.mg CE) (hg : Gl X "ColumnError") (ha : PA X (e :: es) ta)
    (hc : eval (.Call (.Attribute (.Name "ColumnError" p1) "__init__" p2) (e :: es) [] pos) X.env = (do
      let ov ← eval (.Name "ColumnError" p1) X.env
      standAt p2.atName
      let (f, first) ← holding [ov] (getMethod ov "__init__" pl)
      callWith pos f first (backTo pos (starEach (e :: es) X.env)) (backToKw pos (keywordEach [] X.env))) := by rfl)
    (he : starEach (e :: es) X.env = (false, eval e X.env) :: starEach es X.env := by rfl) (hpl : (backTo pos (starEach es X.env)).any (·.1) = false := by rfl) :
    PE X (.Call (.Attribute (.Name "ColumnError" p1) "__init__" p2) (e :: es) [] pos) (tVeI X.K ta) := by
  refine ⟨fun pins s σ H Q I h => ?_⟩
  refine PySem.W.methodCall_KW (ld_glob I hg B.g ?_ (by decide)) hc
  refine PySem.W.method_cls I.kIn B.s (PySem.W.cls_value I.kIn B.r B.f (by decide +kernel) ?_)
  show wpAny _ _ (callWith pos (Value.builtin "ValueError.__init__") [] (backTo pos (starEach (e :: es) X.env)) []) _ _ _
  refine PyProof.Rows.callWith_method1 (thn (ha.run pos pins _ σ H _ (I.tok _) h) fun us s1 ⟨vs, H1, I1, r1, a, C, ws, ev, hl, T, ea, q⟩ => ?_) he hpl
  subst ev
  cases r1 with
  | @cons _ u0 _ ur ra rw' =>
    obtain rfl : u0 = Value.ref a := ra
    have hlen : ur.length ≤ sizeLine := by
      rw [← Paired.length rw', sizeLine_eq]
      omega
    exact oinit_ok T I1 ea hlen fun s' J => ⟨.non, H1, J, rfl, q⟩
end
section
variable {P : Program} {w : World} {K : PySem.W.Frag} {mg : Str → Option Value} {base : Heap}
def spInit (K : PySem.W.Frag) : Sp := fun vs H Q _ => ∃ (a C : Addr) (k : Int), vs = [.ref a, .int k] ∧ OexC K C ∧ PySem.W.findIn K (.ref C) "place" = some none ∧ H a = some (exo a C none) ∧ k.natAbs < 2 ^ 64 ∧
  ∀ d, H d = none → d ≠ a → Q .non (upd (upd H d (exd d [("place", .int k)])) a (exo a C (some d)))
abbrev s_BadValues : Stmt := inClass (top 3) 0
theorem sc_BadValues : FnScope ["self", "place"] ["self", "place"] (defScope s_BadValues) := ⟨rfl, rfl, rfl, by decide +kernel, rfl, by decide +kernel, by decide +kernel⟩
theorem ok_initV {CE C : Addr} (B : ExcB K mg CE) (D : ExcP K mg "BadValues" s_BadValues C) : ∃ (fI : Addr) (fd : FuncData), FnOk P w K mg base CX0 1 fI fd ["self", "place"] (spInit K) ∧ Binds K fd ["self", "place"] [] ∧ PySem.W.findIn K (.ref C) "__init__" = some (some (.ref fI)) ∧ PySem.W.typeIn K (.ref fI) = some (.type "function") := by
  obtain ⟨fI, fd, F, hb, h1, h2⟩ := D.ex
  refine ⟨fI, fd, F.ok sc_BadValues (fun vs H Q E h => ?_) fun cdv A outer s H vs Q E hr h => ?_, hb, h1, h2⟩
  · obtain ⟨a, C, k, rfl, _⟩ := h
    rfl
  · obtain ⟨a, C, k, rfl, T, hno, ha, hk, q⟩ := h
    have nd := sc_BadValues.nd
    refine ⟨_, pss_cons (ps_expr (pe_ceinit B rfl (pa_cons (pv 0) (pa_cons (pe_joined (.cons pe_str (.cons (pe_fmt (pv 1)) (.cons pe_str .nil)))) pa_nil)))) (pss_one (ps_ost (pv 0) (pv 1))), ?_⟩
    refine ⟨_, rfl, _, rfl, str_fits (str_add (show Str.empty.length ≤ 0 from Nat.le_refl 0) (show (Str.ofString "what stands at place ").length ≤ 21 by decide)) (by decide), _, rfl, .inr ⟨_, rfl, int_log hk, _, rfl, str_fits (str_add (str_add (show Str.empty.length ≤ 0 from Nat.le_refl 0) (show (Str.ofString "what stands at place ").length ≤ 21 by decide)) (int_len hk)) (by decide), _, rfl, str_fits (str_add (str_add (str_add (show Str.empty.length ≤ 0 from Nat.le_refl 0) (show (Str.ofString "what stands at place ").length ≤ 21 by decide)) (int_len hk)) (show (Str.ofString " is no value here").length ≤ 17 by decide)) (by decide), a, C, _, rfl, (by show 1 ≤ 1000; decide), T, ha, ?_⟩⟩
    exact ⟨_, rfl, _, rfl, a, C, rfl, T, hno, .inl ⟨ha, fun dx n ne => q dx n ne⟩⟩
/-- x(k) of such a class, made to be raised -/
theorem mk_pl {C : Addr} {H1 : Hp} {Q : XK} {k : Int} (o : OexC K C) (nf : PySem.W.findIn K (.ref C) "place" = some none) (hk : k.natAbs < 2 ^ 64) (h : ∀ d H2, Same H1 H2 → H1 d = none → H2 d = some (.xd [("place", .int k)]) → Q (.ref C) (some d) H2) :
    ([V.int k] : List V).length ≤ 1000 ∧ ∀ a, H1 a = none → spInit K (.ref a :: ([V.int k] ++ [])) (upd H1 a (exo a C none)) (fun v H2 => v = .non ∧ ∃ (d : Addr) (fs : List (Str × V)), H2 a = some (exo a C (some d)) ∧ H2 d = some (exd d fs) ∧ H1 d = none ∧ Q (.ref C) (some d) (upd (L2.del H2 a) d (.xd fs))) (fun _ _ _ => False) := by
  refine ⟨by show 1 ≤ 1000; decide, fun a na => ⟨a, C, k, rfl, o, nf, upd_same, hk, fun d nd hda => ?_⟩⟩
  have nd1 : H1 d = none := by rw [upd_ne hda] at nd; exact nd
  refine ⟨rfl, d, _, upd_same, (upd_ne hda).trans upd_same, nd1, h d _ (fun b u e => ?_) nd1 upd_same⟩
  rw [upd_ne (ne_of_none e nd1), del_ne (ne_of_none e na), upd_ne (ne_of_none e na), upd_ne (ne_of_none e nd1), upd_ne (ne_of_none e na)]
  exact e
end
section
variable {X : Cx} {x : Str} {C : Addr} {st : Stmt} {e : Expr} {ta : TE} {p pos : Pos}
theorem pmk_pl (D : ExcP X.K X.mg x st C) (F : ∃ (fI : Addr) (fd : FuncData), FnOk X.prog X.w X.K X.mg X.base CX0 1 fI fd ["self", "place"] (spInit X.K) ∧ Binds X.K fd ["self", "place"] [] ∧ PySem.W.findIn X.K (.ref C) "__init__" = some (some (.ref fI)) ∧ PySem.W.typeIn X.K (.ref fI) = some (.type "function"))
    (hr : Room 2 X.A) (he : PE X e ta) (hg : Gl X x := by rfl) (hdb : (x == ("__debug__" : Str)) = false := by decide) (hst : starEach [e] X.env = (false, eval e X.env) :: starEach [] X.env := by rfl) (hpl : (backTo pos (starEach [] X.env)).any (·.1) = false := by rfl) :
    PMk X (.Call (.Name x p) [e] [] pos) (tMkO C (spInit X.K) [] (tCons ta tNil)) := by
  obtain ⟨fI, fd, F1, hb, h1, h2⟩ := F
  exact pmk_oex D.o h1 h2 F1 hr hb .nil pass0 hg D.g (pa_cons he pa_nil hst) hdb hst hpl
end
end K3

set_option Elab.async false
set_option linter.all false
set_option maxRecDepth 100000
set_option maxHeartbeats 4000000
/-! KT: enumerate of a tuple, or of either -/
namespace PySem
open Sem (wp)
set_option maxHeartbeats 4000000 in
theorem k3_enum_new {v : Value} {o : Obj} {H : Heap → Prop} (B : Begins v o H) :
    Meets (Builtin.«enumerate.__new__» ⟨[.type "enumerate", v], []⟩) (fun _ R s => H s.heap ∧
      R (.ok (.ret (.ref (s.heap.push o).objs.size))) { s with heap := (s.heap.push o).push { cls := .type "enumerate", data := .fields #[.none, .bool false, .ref s.heap.objs.size, rawInt 0, .none, .none] } }) :=
  .of_wp fun prog w A R s h => by
    obtain ⟨hp, g, d, tk, os⟩ := s
    obtain ⟨h1, h⟩ := h
    have hsub := sub_enumerate
    have q1 : ∀ {A' : Around} {E : Value → Shared → Prop} {Q : Value → Shared → Prop}, Q (.ref hp.objs.size) ⟨hp.push o, g, d, tk, os⟩ → wpAny (model prog w) A' (pyIter v) Q E ⟨hp, g, d, tk, os⟩ := fun q => B.iter prog w _ _ ⟨hp, g, d, tk, os⟩ _ h1 q
    wp_walk using q1
    refine wpAny_stack_any fun st => wpAny_pure ?_
    split
    · rename_i c _ _ _ _ _
      cases (c == Value.type "enumerate")
      · wp_walk using q1
        exact ⟨_, rfl, h⟩
      · wp_walk using q1
        exact ⟨_, rfl, h⟩
    · wp_walk using q1
      exact ⟨_, rfl, h⟩
theorem k3_call_enum {prog : Program} {w : World} {A : Around} {E : Value → Shared → Prop} {s : Shared} {v : Value} {o : Obj} {H : Heap → Prop} {Q : Value → Shared → Prop} (B : Begins v o H) (h1 : H s.heap)
    (h : ∀ h', IsEnum h' (s.heap.objs.size + 1) s.heap.objs.size 0 .none → h'.get? s.heap.objs.size = some o → (∀ b o, s.heap.get? b = some o → h'.get? b = some o) → Q (.ref (s.heap.objs.size + 1)) { s with heap := h' }) :
    wpAny (model prog w) A (call (.type "enumerate") [v]) Q E s := by
  refine callType_new F.called_enumerate (by decide) (F.typeCall_enumerate_1 _) (F.newCall_enumerate_1 _) (fun obj => F.args_object_init_2 obj _) F.entry_enumerate_new (k3_enum_new B) ⟨h1, ?_⟩
  have hz : (s.heap.push o).objs.size = s.heap.objs.size + 1 := Heap.size_push ..
  show _ ∧ _
  rw [hz]
  have he : IsEnum ((s.heap.push o).push { cls := .type "enumerate", data := .fields #[.none, .bool false, .ref s.heap.objs.size, rawInt 0, .none, .none] }) (s.heap.objs.size + 1) s.heap.objs.size 0 .none := by
    have := Heap.get?_push_size (s.heap.push o) (o := { cls := .type "enumerate", data := .fields #[.none, .bool false, .ref s.heap.objs.size, rawInt 0, .none, .none] }) rfl
    rw [hz] at this
    exact this
  exact ⟨⟨_, he, rfl⟩, h _ he (Heap.get?_push_of_some _ (Heap.get?_push_size _ B.free)) fun b o x => Heap.get?_push_of_some _ (Heap.get?_push_of_some _ x)⟩
end PySem
namespace K3
open PySem PySem.Spec PyProof.Rows L2
/-- the tuple at a, each item in a new pair -/
def IteT (K : PySem.W.Frag) (a : Addr) : It :=
  ⟨fun i H => ∃ (xs : List V) (x : V), SqT K H a xs ∧ xs[i]? = some x, fun i H v H' => ∃ T x, v = .ref T ∧ H T = none ∧ H' = L2.upd H T (.tup [.int (i : Nat), x]) ∧ ∀ xs, SqT K H a xs → xs[i]? = some x, fun i H => ∃ xs : List V, SqT K H a xs ∧ xs.length ≤ i⟩
theorem turn_enumT {P : Program} {w : World} {K : PySem.W.Frag} {elts : List Expr} {kk : Nat} {tpos : Pos} (a e it : Addr) :
    Turn P w K (.Tuple elts kk tpos) (IteT K a) [e, it] e (fun i h => (∃ old, IsEnum h e it ((i : Nat) : Int) old) ∧ h.IsTupleIter it a i ∧ e ≠ it) where
  mem := by simp
  obj := fun i h st b hb => by
    obtain ⟨⟨old, he⟩, ⟨o, ho, hc, hd⟩, _⟩ := st
    have e' : b = e ∨ b = it := by simpa using hb
    rcases e' with z | z
    · rw [z]
      exact ⟨_, he, fun v q => nomatch q⟩
    · rw [z]
      exact ⟨o, ho, fun v q => by rw [hd] at q; cases q⟩
  keep := fun i h h' st k => let ⟨⟨old, he⟩, hi, hne⟩ := st; ⟨⟨old, k e (by simp) _ he⟩, hi.at fun o q => k it (by simp) o q, hne⟩
  item := by
    intro X hP hw hK hc i pins s σ H E I hf st hg
    subst hP hw hK
    obtain ⟨⟨old, he⟩, hit, hne⟩ := st
    obtain ⟨xs, x, hq, hx⟩ := hg
    obtain ⟨its, rv, p, hz⟩ := I.tuple hq
    obtain ⟨u, hu, ru⟩ := rv.get hx
    have p' : s.heap.IsTuple a its.toArray := p
    have hel : e < s.heap.objs.size := Heap.lt_size he
    have hil : it < s.heap.objs.size := by obtain ⟨_, q, _⟩ := hit; exact Heap.lt_size q
    have hai : a ≠ it := fun z => by
      obtain ⟨o1, e1, c1, _⟩ := p'
      obtain ⟨o2, e2, c2, _⟩ := hit
      rw [z, e2] at e1
      cases e1
      rw [c2] at c1
      exact absurd (Value.type.inj c1) (by decide)
    have hae : a ≠ e := fun z => by
      obtain ⟨o1, e1, c1, _⟩ := p'
      rw [z, show s.heap.get? e = _ from he] at e1
      cases e1
      exact absurd (Value.type.inj c1) (by decide)
    have hlt : i < its.toArray.size := by
      have := (List.getElem?_eq_some_iff.mp hu).1
      simpa using this
    refine wpAny_pyNext_enum_itemD (Draws.tuple (show X.A.in1.handled = none from I.ok.hd hc) it a hai its.toArray) he ⟨hit, p'⟩ hlt hne (by simp [hne, Ne.symm hae]) fun y h' tk hy ho hit' hT hsz hk => ?_
    obtain rfl : u = y := by
      have h2 : its[i]? = some y := by simpa using hy
      rw [hu] at h2
      exact Option.some.inj h2
    refine ⟨_, rfl, wpAny_letOwnedTupleGo_enum (s := { s with heap := h', toks := tk + 1 }) ho fun h'' he' sb => ?_⟩
    have hT2 : h''.get? s.heap.objs.size = some { cls := .type "tuple", data := .seq #[.int i tk, u] } := (sb.2 _ (Nat.ne_of_gt hel)).trans hT
    have new : ObjOk X.prog X.w (L2.upd H s.heap.objs.size (.tup [.int (i : Nat), x])) h'' s.heap.objs.size (.tup [.int (i : Nat), x]) :=
      ⟨by show 2 ≤ sizeLine; decide, [.int i tk, u], .cons ⟨_, rfl⟩ (.cons ru .nil), ⟨_, hT2, rfl, _, rfl⟩⟩
    have I1 : Inv X pins σ (L2.upd H s.heap.objs.size (.tup [.int (i : Nat), x])) { s with heap := h'', toks := tk + 1 } :=
      I.turnedNew (ch := [e, it]) (fun b ob hb q => (sb.2 b (fun z => hb (by simp [z]))).trans (hk b ob (fun z => hb (by simp [z])) (fun z => hb (by simp [z])) q)) hf (Nat.le_refl _) new
    refine ⟨.ref s.heap.objs.size, _, I1, rfl, ⟨_, x, rfl, I.hok.fresh (Nat.le_refl _), rfl, fun ys hy => by rw [I.tuple_inj hy hq]; exact hx⟩, ⟨⟨u, ?_⟩, hit'.1.at fun o q => (sb.2 it (Ne.symm hne)).trans q, hne⟩, fun b hb => ?_⟩
    · have e1 : ((i + 1 : Nat) : Int) = (i : Int) + 1 := by omega
      rw [e1]
      exact he'
    · have hb' : b < s.heap.objs.size := by
        have e' : b = e ∨ b = it := by simpa using hb
        rcases e' with z | z
        · rw [z]; exact hel
        · rw [z]; exact hil
      rw [upd_ne (Nat.ne_of_lt hb')]
      exact (hf b hb).1
  done := by
    intro X hP hw hK hc i pins s σ H E I hf st hg
    subst hP hw hK
    obtain ⟨⟨old, he⟩, hit, hne⟩ := st
    obtain ⟨xs, hq, hx⟩ := hg
    obtain ⟨its, rv, p, hz⟩ := I.tuple hq
    obtain ⟨f0, f1, f2, f3, f4, f5⟩ := hf it (by simp)
    have hl := rv.length
    have p' : s.heap.IsTuple a its.toArray := p
    have D : Draws X.prog X.w X.A.in1 it [it, a] i (fun _ _ => True) (fun j h => j = i ∧ h.IsTupleIter it a i ∧ h.IsTuple a its.toArray) :=
      ⟨fun _ _ st => let ⟨o, ho, _⟩ := st.2.1; ⟨o, ho⟩, fun _ _ _ st hk => ⟨st.1, st.2.1.at fun o e => hk it (by simp) o e, st.2.2.at fun o e => hk a (by simp) o e⟩, fun j s Q E hj st _ => absurd st.1 (Nat.ne_of_lt hj), fun s Q E st hE => wpAny_nextOf_tuple_end (show X.A.in1.handled = none from I.ok.hd hc) st.2.1 st.2.2 (by simp; omega) hE⟩
    exact wpAny_pyNext_enum_endD D he ⟨rfl, hit, p'⟩ fun h' eb => ⟨rfl, I.turned (t' := s.toks) (fun b o hb q => eb b o hb q) f0 f1 f3 f4 f5⟩
  self := fun A i s Q E st h => let ⟨⟨_, he⟩, _⟩ := st; wpAny_pyIter_enum he h
theorem walk_enumT {K : PySem.W.Frag} {a : Addr} {xs : List V} : Walk (IteT K a) xs.length (fun H => SqT K H a xs) (YPair (fun i => some (.int (i : Nat))) (fun i => xs[i]?)) := by
  refine ⟨fun i _ hi q => ⟨xs, xs[i], q, by simp [hi]⟩, fun _ q => ⟨xs, q, Nat.le_refl _⟩, fun i H v H' _ q y => ?_⟩
  obtain ⟨T, x, h1, h2, h3, h4⟩ := y
  exact ⟨T, .int (i : Nat), x, h1, h2, h3, rfl, h4 xs q⟩
/-- a list or a tuple -/
def SqS (K : PySem.W.Frag) (H : Hp) (a : Addr) (xs : List V) : Prop := SqL K H a xs ∨ SqT K H a xs
theorem SqS.same {K : PySem.W.Frag} {H H' : Hp} {a : Addr} {xs : List V} (h : SqS K H a xs) (s : Same H H') : SqS K H' a xs := h.elim (fun h => .inl (s.seq h)) fun h => .inr (s.seqT h)
def iEnumS (K : PySem.W.Frag) (ta : TA) : TI := fun σ H R => ta σ H fun vs H1 => ∃ a, vs = [.ref a] ∧ ((∃ xs, SqL K H1 a xs ∧ R (Ite K a) H1) ∨ (∃ xs, SqT K H1 a xs ∧ R (IteT K a) H1))
theorem pi_enumS {X : Cx} {e : Expr} {ta : TA} {p pos tpos : Pos} {elts : List Expr} {kk : Nat} (hg : Gl X "enumerate") (hm : X.mg "enumerate" = none) (ha : PA X [e] ta) (hs : starEach [e] X.env = [(false, eval e X.env)] := by rfl) :
    PI X (.Tuple elts kk tpos) (.Call (.Name "enumerate" p) [e] [] pos) (iEnumS X.K ta) := by
  refine ⟨fun pins s σ H R I h => ?_⟩
  refine Call_ (ld_blt I hg hm boot_enumerate (PyProof.Rows.callWith_type1 (thn (ha.run pos pins s σ H _ I h) fun us s1 ⟨vs, H1, I1, r1, q1⟩ => ?_) hs rfl))
  obtain ⟨a, ex, q⟩ := q1
  subst ex
  have fpK : ∀ b ∈ [s1.heap.objs.size + 1, s1.heap.objs.size], FpOk X pins H1 b := fun b hb => by
    have e' : b = s1.heap.objs.size + 1 ∨ b = s1.heap.objs.size := by simpa using hb
    have hle : s1.heap.objs.size ≤ b := by
      rcases e' with z | z
      · rw [z]; exact Nat.le_add_right _ _
      · rw [z]; exact Nat.le_refl _
    exact I1.fpOk hle (I1.hok.fresh hle)
  cases r1 with
  | cons r rr =>
    cases rr
    cases r
    rcases q with ⟨xs, hq, q⟩ | ⟨xs, hq, q⟩
    · obtain ⟨its, rv, p', hz⟩ := I1.list hq
      refine call_enumerate_list p'.isList fun h' he hit hsz hk => wpAny_pyIter_enum he ?_
      have I2 : Inv X pins σ H1 { s1 with heap := h' } := I1.kept (t' := s1.toks) hk
      exact ⟨s1.heap.objs.size + 1, [s1.heap.objs.size + 1, s1.heap.objs.size], _, _, H1, rfl, I2, turn_enum a (s1.heap.objs.size + 1) s1.heap.objs.size, ⟨⟨.none, he⟩, hit, Nat.succ_ne_self _⟩, fpK, q⟩
    · obtain ⟨its, rv, p', hz⟩ := I1.tuple hq
      refine k3_call_enum (begins_tuple a its.toArray) (show s1.heap.IsTuple a its.toArray from p') fun h' he hit hk => wpAny_pyIter_enum he ?_
      have I2 : Inv X pins σ H1 { s1 with heap := h' } := I1.kept (t' := s1.toks) hk
      exact ⟨s1.heap.objs.size + 1, [s1.heap.objs.size + 1, s1.heap.objs.size], _, _, H1, rfl, I2, turn_enumT a (s1.heap.objs.size + 1) s1.heap.objs.size, ⟨⟨.none, he⟩, ⟨_, hit, rfl, rfl⟩, Nat.succ_ne_self _⟩, fpK, q⟩
end K3

set_option Elab.async false
set_option linter.all false
set_option maxRecDepth 100000
set_option maxHeartbeats 4000000
/-! KN: lambdas in a list, each told -/
namespace K3
open PySem PySem.Spec PyProof.Rows L2
section
variable {Z : Cx} {W : WX} {k i : Nat} {f : Addr} {a : Str} {tl : XK → Hp → VK → Prop} {p1 p2 : Pos}
/-- x(), x a lambda whose maker's cells stand in the base -/
theorem pe_actB (C : CallB Z.prog Z.w Z.K Z.mg Z.base k f tl) (tk : Takes Z W) (hr : Room k Z.A) (hN : Z.N[i]? = some a) (hv : Vis Z.env.scope a) (hd : (a == ("__debug__" : Str)) = false := by decide) (hcd : (a == ("__classdict__" : Str)) = false := by decide) :
    PE Z (.Call (.Name a p1) [] [] p2) (fun σZ HZ Q => σZ[i]? = some (some (.ref f)) ∧ tl (WE W σZ) HZ Q) := by
  refine ⟨fun pinsZ sZ σZ HZ Q IZ h => ?_⟩
  obtain ⟨hs, ht⟩ := h
  refine wpAny_Call_Name_kw (thn ((pe_var (pos := p1) (i := i) hN hv hd hcd).run pinsZ sZ σZ HZ (fun v H1 => v = .ref f ∧ H1 = HZ) IZ ⟨.ref f, hs, rfl, rfl⟩) fun u s1 ⟨v, H1, I1, r1, q1⟩ => ?_)
  obtain ⟨ev, eH⟩ := q1
  subst ev
  rw [eH] at I1
  obtain rfl : u = Value.ref f := r1
  obtain ⟨hfn, rc⟩ := C Z.A Z.stack s1 HZ Q (WE W σZ) hr I1.env0 ht
  refine PySem.W.callWith_F0 hfn ?_
  have hx : PassesAt (L2.CX Z.prog Z.w) Z σZ (WE W σZ) := passAt tk σZ
  refine wpAny_call (codeAny_mono rc fun r s' hq => ?_)
  cases r with
  | error e => exact hx pinsZ HZ s1 e s' I1 hq
  | ok fl =>
    cases fl with
    | ret u => exact I1.after hq
    | next => exact False.elim hq
    | brk => exact False.elim hq
    | cont => exact False.elim hq
end
section
variable {X : Cx} {k : Nat} {ps : List Str} {sp : Heap → Sp} {x : Str} {q pos : Pos} {e : Expr} {es : List Expr} {t : TA}
/-- a call of a def that gets lambdas of the caller: it promises over any base -/
theorem pe_callL (F : ∀ b, Fn X.prog X.w X.K X.mg b CX0 k x ps (sp b)) (hr : Room k X.A) (hfn : ∀ x, X.fn x = true) (ha : PA X (e :: es) t) (hg : Gl X x := by rfl)
    (hdb : (x == ("__debug__" : Str)) = false := by decide) (he : starEach (e :: es) X.env = (false, eval e X.env) :: starEach es X.env := by rfl) (hpl : (backTo pos (starEach es X.env)).any (·.1) = false := by rfl) :
    PE X (.Call (.Name x q) (e :: es) [] pos) (fun σ H Q => t σ H fun vs H1 => ∀ b, LamsOk X σ b → sp b vs H1 Q C8.E0) := by
  obtain ⟨f0, fd0, G0, hm, hk, _⟩ := (F X.base).ex
  refine ⟨fun pins s σ H Q I h => ?_⟩
  refine wpAny_Call_Name_kw (ld_glob I hg hm ?_ hdb)
  refine PySem.W.callWith_K (h₀ := X.base) I.ok.mod.kin hk (thn (ha.run pos pins s σ H _ I h) fun us s1 ⟨vs, H1, I1, r, hq⟩ => ⟨I1.kIn, ?_⟩) he hpl
  have hq := hq _ (lams_ok I1 hfn)
  obtain ⟨f, fd, G, hm', hk', hb⟩ := (F (bigB X H1 s1.heap)).ex
  rw [hm] at hm'
  cases hm'
  have hl : us.length = ps.length := by rw [← r.length]; exact G.len _ _ _ _ hq
  have b := hb s1 us I1.kIn (by rw [List.append_nil]; exact hl)
  rw [List.append_nil] at b
  refine wpAny_call (codeAny_mono (G.run X.A X.stack s1 H1 ⟨us, []⟩ us vs Q C8.E0 hr (bigB_env0 I1).2 b r hq) fun r s' hq => ?_)
  cases r with
  | error e => exact (show False from hq).elim
  | ok fl =>
    cases fl with
    | ret u => exact I1.after hq
    | next => exact False.elim hq
    | brk => exact False.elim hq
    | cont => exact False.elim hq
end
/-- a comprehension of one name with an if -/
theorem lc_ifL {J : It} {n : Nat} {G : Hp → Prop} {Y : Nat → Hp → V → Hp → Prop} (w : Walk J n G Y) {j : Nat} {tt : TT} {te : TE} {σ : L2.St} {H1 : Hp} {D : Addr} {Qd : Hp → Prop} (Pv : Nat → Hp → Prop) (h0 : Pv 0 (L2.upd H1 D (.lst []))) (hG : ∀ i H, i ≤ n → Pv i H → G H)
    (hs : ∀ i x H H', i < n → Pv i H → Y i H x H' → tt (σ.set j (some x)) H' fun b H3 => if b = true then te (σ.set j (some x)) H3 fun y H4 => ∃ acc, H4 D = some (.lst acc) ∧ acc.length < sizeLine ∧ Pv (i + 1) (L2.upd H4 D (.lst (acc ++ [y]))) else Pv (i + 1) H3) (hd : ∀ H, Pv n H → Qd H) :
    ∃ W : Nat → Nat → Hp → Prop, (∃ m, W 0 m (L2.upd H1 D (.lst []))) ∧ ∀ i m H, W i m H →
      (J.stop i H ∧ Qd H) ∨ (J.go i H ∧ ∃ Nx : Hp → Prop, (∀ H', Nx H' → ∃ m', m' < m ∧ W (i + 1) m' H') ∧ ∀ x H', J.yld i H x H' → gName j x (wipe σ [j]) H' fun σ2 H2 => wipe σ2 [j] = wipe σ [j] ∧ tt σ2 H2 fun b H3 =>
        if b = true then te σ2 H3 fun y H4 => ∃ acc, H4 D = some (.lst acc) ∧ acc.length < sizeLine ∧ Nx (L2.upd H4 D (.lst (acc ++ [y]))) else Nx H3) := by
  refine lc_it w Pv h0 hG (fun i x H H' hi p y => ?_) hd
  have q := hs i x H H' hi p y
  have e : (wipe σ [j]).set j (some x) = σ.set j (some x) := by
    show (σ.set j none).set j (some x) = σ.set j (some x)
    rw [List.set_set]
  refine ⟨?_, ?_⟩
  · show ((σ.set j none).set j (some x)).set j none = σ.set j none
    rw [List.set_set, List.set_set]
  · show tt ((wipe σ [j]).set j (some x)) H' (fun b H3 => if b = true then te ((wipe σ [j]).set j (some x)) H3 (fun y H4 => ∃ acc, H4 D = some (.lst acc) ∧ acc.length < sizeLine ∧ Pv (i + 1) (L2.upd H4 D (.lst (acc ++ [y])))) else Pv (i + 1) H3)
    rw [e]
    exact q
/-- a lambda that may be called: it tells T by the law's way -/
structure WorkOk (P : Program) (w : World) (K : PySem.W.Frag) (mg : Str → Option Value) (base : Heap) (k : Nat) (cs : Nat → Addr) (f : Addr) (H : Hp) (T : Hp → VK → Prop) : Prop where
  ex : ∃ (c' : Addr) (q : Str) (tl : XK → Hp → VK → Prop), H c' = some (LamX.CodeO c' q) ∧ CallB P w K mg base k f tl ∧ ∀ H' Q, Same H H' → T H' Q → TTd cs tl H' Q
theorem work_of {X : Cx} {σ : L2.St} {b' : Heap} {cs : Nat → Addr} {params : Arguments} {body : Expr} {scope : Scope} {ps : List Str} {dvs : List V} {k : Nat} {t : XK → TE} {f c' : Addr} {H : Hp} {T : Hp → VK → Prop} (LB : LamsOk X σ b') (L : LamAt X H f c' params body scope dvs) (hL : LamP X.N X.env.scope scope ps) (hB : LamB params body scope ps dvs)
    (hbody : ∀ (A : Around) (outer : List Env) (s : Shared) (H : Hp) (E : XK), Room k (A.deeper (LamX.lamEnv X scope s.heap.objs.size f c')) → PE (LamX.lamCx X A outer s H E scope f c') body (t E))
    (hT : ∀ (H' : Hp) (Q : VK) (E : XK), Same H H' → T H' Q → (∀ cls d H'', Told cs cls d H'' Q → E cls d H'') → t E σ H' Q) : WorkOk X.prog X.w X.K X.mg b' (k + 1) cs f H T := by
  obtain ⟨dV, h1, h2, h3⟩ := id L
  exact ⟨c', _, _, h2, LB.2 hL hB hbody, fun H' Q s' Tt E hE => ⟨L.same s', hT H' Q E s' Tt hE⟩⟩
section
variable {P : Program} {w : World} {K : PySem.W.Frag} {mg : Str → Option Value} {base : Heap}
def spTold (P : Program) (w : World) (K : PySem.W.Frag) (mg : Str → Option Value) (k : Nat) (cs : Nat → Addr) (base : Heap) : Sp := fun vs H Q _ => ∃ (f : Addr) (T : Hp → VK → Prop) (H0 : Hp), vs = [.ref f] ∧ WorkOk P w K mg base (k + 1) cs f H0 T ∧ Same H0 H ∧ T H Q
theorem ok_toldB {k : Nat} {cs : Nat → Addr} {CE : Addr} (KS : Kinds K mg cs CE) (G_class : Fnp P w K mg base CX0 1 "_law_class" P__law_class (spClass K cs)) (D : Df K mg "_law_told" s__law_told P__law_told) :
    Fn P w K mg base CX0 (k + 2) "_law_told" P__law_told (spTold P w K mg k cs base) := by
  refine D.ok sc__law_told (fun vs H Q E h => ?_) (fun f cdv A outer s H vs Q E hr h => ?_)
  · obtain ⟨f, T, H0, rfl, _⟩ := h
    rfl
  · obtain ⟨f', T, H0, rfl, ⟨c', q, tl, hc, C, hT⟩, s0, h⟩ := h
    exact told_gives (X := { cxOf CX0 P w K mg base N__law_told "_law_told" (defScope s__law_told) f cdv A outer s H E with A := A, stack := outer }) (q := q) KS G_class f' c' s H Q tl hr
      (fun W pn xe p1 p2 tk => (pe_actB (i := 0) C tk hr rfl (.inl rfl)).imp fun σ H Q ⟨h1, _, h3⟩ => ⟨h1, h3⟩) (s0 _ _ hc) (hT _ _ s0 h)
abbrev s__law_all : Stmt := top 62
abbrev N__law_all : List Str := ["_law_works", "_law_due", "_law_work"]
abbrev P__law_all : List Str := ["_law_works", "_law_due"]
theorem sc__law_all : FnScope N__law_all P__law_all (defScope s__law_all) := ⟨rfl, rfl, rfl, by decide +kernel, rfl, by decide +kernel, by decide +kernel⟩
def spAll (P : Program) (w : World) (K : PySem.W.Frag) (mg : Str → Option Value) (k n : Nat) (cs : Nat → Addr) (base : Heap) : Sp := fun vs H Q _ => ∃ (p q : Addr) (fs : List Addr), vs = [.ref p, .ref q] ∧ SqL K H p (fs.map V.ref) ∧ fs.length ≤ 1000 ∧
  (∀ f ∈ fs, WorkOk P w K mg base (k + 1) cs f H fun H' Q' => ∀ (v : V) (H'' : Hp), Same H' H'' → (∃ m, m < n ∧ Alk K H'' m v (.ref q)) → Q' v H'') ∧ ∀ H', Same H H' → Q (.bl true) H'
theorem ok_allB {k n : Nat} {cs : Nat → Addr} (hk : 1 + n ≤ k + 2) (T : Txt mg) (G_told : Fn P w K mg base CX0 (k + 2) "_law_told" P__law_told (spTold P w K mg k cs base)) (G_alike : Fn P w K mg base CX0 (1 + n) "_law_alike" P__law_alike (spAlike K n))
    (D : Df K mg "_law_all" s__law_all P__law_all) : Fn P w K mg base CX0 (k + 3) "_law_all" P__law_all (spAll P w K mg k n cs base) := by
  refine D.ok sc__law_all (fun vs H Q E h => ?_) (fun f cdv A outer s H vs Q E hr h => ?_)
  · obtain ⟨p, q, fs, rfl, _⟩ := h
    rfl
  · obtain ⟨p, q, fs, rfl, hS, hl, hW, k⟩ := h
    have nd := sc__law_all.nd
    have hr1 := hr
    have hr2 := hr.mono hk
    refine ⟨_, (pss_one (ps_ret (pe_cmpR (op_eqIs hr.units) (pe_lc (own := [("_law_work", 2)]) (g := gName 2) (by rfl) nd  (pi_list (pv 0)) (blkOk_by (own := [("_law_work", 2)]) (N := N__law_all) (sc := defScope s__law_all) (by decide +kernel)) (fun _ _ _ _ _ => pg_name (i := 2) nd rfl (Or.inl rfl)) (fun _ _ _ _ _ => pts_one (pt_not (pt_val (pe_c G_alike hr2 pass0 (pa_cons (pe_c G_told hr1 pass0 (pa_cons (pv 2) pa_nil)) (pa_cons (pv 1) pa_nil)))))) (fun _ _ _ _ _ => (pv 2))) (pe_lst pa_nil) (nomark _)))), ?_⟩
    refine ⟨_, rfl, p, rfl, ⟨_, hS⟩, fun D0 nD => ?_⟩
    refine lc_ifL (walk_list (xs := fs.map V.ref)) (fun m H' => Same H H' ∧ H' D0 = some (.lst [])) ⟨Same.upd nD, upd_same⟩ (fun _ _ _ h => h.1.seq hS) ?_ ?_
    · rintro m x H3 H3' hm ⟨s3, hD⟩ ⟨rfl, e⟩
      obtain ⟨f, hf, rfl⟩ := map_at e
      refine ⟨_, rfl, f, _, H, rfl, hW f (List.mem_of_getElem? hf), s3, fun v H4 s4 ⟨m', hm', hA⟩ => ?_⟩
      refine ⟨_, rfl, v, .ref q, rfl, m', hm', hA, _, rfl, ?_⟩
      exact ⟨s3.trans s4, s4 _ _ hD⟩
    · rintro H3 ⟨s3, hD⟩
      refine ⟨Nat.zero_le _, fun l nl => ?_⟩
      refine ⟨D0, l, [], [], rfl, rfl, SqL.of (Same.upd nl _ _ hD), SqL.of upd_same, ?_⟩
      exact k _ (s3.upd' nl)
end
end K3

set_option Elab.async false
set_option linter.all false
set_option maxRecDepth 100000
set_option maxHeartbeats 4000000
/-! KJ: what is looked at in the head for refusals with a place -/
namespace K3
open PySem PySem.Spec PyProof.Rows L2
def oexClsB (K : PySem.W.Frag) (C : Addr) : Bool := match K.lookup C with
  | some ⟨.type "type", _, .cls cd, sl⟩ => (match cd.mro, sl.toList with
    | .ref C' :: bm, [_, _, _, _, some (.builtin n), _] => C' == C && n == "ValueError.__new__" && !cd.hasDel && cd.hasDict && PySem.HandSPX.refsVE bm
    | _, _ => false)
  | _ => false
theorem oexCls_ok {K : PySem.W.Frag} {C : Addr} (q : oexClsB K C = true) : ∃ nm q N bs bm sn sub ab col dd k0 k1 k2 k3 k5, K.lookup C = some (excClassObj nm q C N bs bm true sn sub ab col dd k0 k1 k2 k3 k5 "ValueError.__new__") ∧ PySem.HandSPX.refsVE bm = true := by
  unfold oexClsB at q
  split at q
  · rename_i dd cd sl ho
    split at q
    · rename_i C' bm k0 k1 k2 k3 n k5 hm hs
      simp only [Bool.and_eq_true, beq_iff_eq, Bool.not_eq_true'] at q
      obtain ⟨⟨⟨⟨e1, e2⟩, hdel⟩, hdict⟩, ht⟩ := q
      subst e1 e2
      obtain ⟨nm, bs, mro, ns, qn, hd, sn, sub, ab, col, del⟩ := cd
      dsimp only at hm hdel hdict
      subst hm hdel hdict
      have hsl : sl = #[k0, k1, k2, k3, some (.builtin "ValueError.__new__"), k5] := by
        obtain ⟨l⟩ := sl
        simp only at hs
        rw [hs]
      subst hsl
      exact ⟨nm, qn, ns, bs, bm, sn, sub, ab, col, dd, k0, k1, k2, k3, k5, ho, ht⟩
    · cases q
  · cases q
def excPB (K : PySem.W.Frag) (C : Addr) : Bool := oexClsB K C && (decide (PySem.W.findIn K (.ref C) "__setattr__" = some (some (.builtin "object.__setattr__"))) && (decide (PySem.W.subIn K (.ref C) (.type "BaseException") = some true) && (decide (PySem.W.typeIn K (.ref C) = some (.type "type")) &&
  (PySem.W.keepIn K (.ref C) && decide (PySem.W.findIn K (.ref C) "place" = some none)))))
theorem excPB_ok {K : PySem.W.Frag} {C : Addr} (h : excPB K C = true) : OexC K C ∧ PySem.W.findIn K (.ref C) "place" = some none := by
  obtain ⟨h1, h⟩ := Bool.and_eq_true_iff.mp h
  obtain ⟨h2, h⟩ := Bool.and_eq_true_iff.mp h
  obtain ⟨h3, h⟩ := Bool.and_eq_true_iff.mp h
  obtain ⟨h4, h⟩ := Bool.and_eq_true_iff.mp h
  obtain ⟨h5, h6⟩ := Bool.and_eq_true_iff.mp h
  exact ⟨⟨oexCls_ok h1, of_decide_eq_true h2, of_decide_eq_true h3, of_decide_eq_true h4, h5⟩, of_decide_eq_true h6⟩
def isVeInit : Option PySem.W.CFound → Bool
  | some (.val (.builtin s)) => s == "ValueError.__init__"
  | _ => false
theorem isVeInit_ok : ∀ {r : Option PySem.W.CFound}, isVeInit r = true → r = some (.val (.builtin "ValueError.__init__")) := fun {r} h => by
  unfold isVeInit at h
  split at h
  · rw [beq_iff_eq.mp h]
  · cases h
def excBB (K : PySem.W.Frag) (CE : Addr) : Bool := decide (PySem.W.specialIn K (.ref CE) "__getattribute__" = some (some (.builtin "type.__getattribute__"))) && (PySem.W.readsIn K CE (.type "type") && isVeInit (PySem.W.findCls K (.ref CE) (.type "type") "__init__"))
theorem excBB_ok {K : PySem.W.Frag} {mg : Str → Option Value} {CE : Addr} (h : excBB K CE = true) (g : mg "ColumnError" = some (.ref CE)) : ExcB K mg CE := by
  obtain ⟨h1, h⟩ := Bool.and_eq_true_iff.mp h
  obtain ⟨h2, h3⟩ := Bool.and_eq_true_iff.mp h
  exact ⟨g, of_decide_eq_true h1, h2, isVeInit_ok h3⟩
end K3

set_option Elab.async false
set_option linter.all false
set_option maxRecDepth 100000
set_option maxHeartbeats 4000000
/-! KH: a head that also looks at the interpreter's statics (a class's attributes are read over them) -/
namespace K3
open PySem PySem.Spec PyProof.Rows L2
/-- what the names reach, and the statics -/
def asY (g : Addr → Option Obj) (n : Nat) : List Addr := He.asD g n ++ [cStatics]
abbrev frY (g : Addr → Option Obj) (n : Nat) : PySem.W.Frag := He.frT g (asY g n)
def obsY (n : Nat) (fa : List He.Fa) (fn : List He.DefD) (ts : List He.Tab) (tf : List He.Defn) (ex : PySem.W.Frag → Bool) (g : Addr → Option Obj) : He.AlX := (He.obsT fa fn ts (frY g n), ex (frY g n) && He.tabsB g tf (frY g n))
theorem saysY_of {n : Nat} {fa : List He.Fa} {fn : List He.DefD} {ts : List He.Tab} {tf : List He.Defn} {ex : PySem.W.Frag → Bool} {w : World} {h : Heap} (e : obsY n fa fn ts tf ex h.get? = He.valX fn ts w) : He.SaysX fa fn ts tf ex w h (frY h.get? n) := by
  have e1 : He.obsT fa fn ts (frY h.get? n) = He.valT fn ts w := congrArg Prod.fst e
  have e2 : (ex (frY h.get? n) && He.tabsB h.get? tf (frY h.get? n)) = true := congrArg Prod.snd e
  obtain ⟨h1, h2⟩ := Bool.and_eq_true_iff.mp e2
  have key : ∀ p ∈ tf, PySem.W.codeHdIn (frY h.get? n) (He.cT (frY h.get? n) p).1 (He.cT (frY h.get? n) p).2 = true ∧ ∃ o, h.get? (He.cT (frY h.get? n) p).2 = some o ∧ He.emptyTab o = true := fun p hp => by
    obtain ⟨h3, h4⟩ := Bool.and_eq_true_iff.mp (List.all_eq_true.mp h2 p hp)
    refine ⟨h3, ?_⟩
    cases q : h.get? (He.cT (frY h.get? n) p).2 with
    | none =>
      rw [q] at h4
      cases h4
    | some o =>
      rw [q] at h4
      exact ⟨o, rfl, h4⟩
  refine ⟨e1, h1, fun p hp => (key p hp).1, fun p hp => ?_, fun p hp => ?_⟩
  · obtain ⟨_, o, q, z⟩ := key p hp
    exact He.frT_none q z
  · obtain ⟨_, o, q, z⟩ := key p hp
    rw [q, He.emptyTab_eq z]
def hookY (n : Nat) (fa : List He.Fa) (fn : List He.DefD) (ts : List He.Tab) (tf : List He.Defn) (ex : PySem.W.Frag → Bool) : PySem.W.Hook where
  α := He.AlX
  obs := fun s => obsY n fa fn ts tf ex s.heap.get?
  val := fun w => He.valX fn ts w
  says := fun w h => ∃ K : PySem.W.Frag, K.In h ∧ He.SaysX fa fn ts tf ex w h K
  of := fun _ _ e => ⟨_, He.frT_in, saysY_of e⟩
  keeps := fun _ _ _ ⟨K, hK, c⟩ k => ⟨K, PySem.W.Frag.In.keeps hK k, ⟨c.t, c.more, c.hd, c.out, fun p hp => k _ _ (c.empty p hp)⟩⟩
theorem obsY_eq {n : Nat} {fa : List He.Fa} {fn : List He.DefD} {ts : List He.Tab} {tf : List He.Defn} {ex : PySem.W.Frag → Bool} {g : Addr → Option Obj} {s : Shared} (h : ∀ a, g a = s.heap.get? a) : obsY n fa fn ts tf ex g = (hookY n fa fn ts tf ex).obs s := by
  have e : g = s.heap.get? := funext h
  rw [e] <;> rfl
end K3

set_option Elab.async false
set_option linter.all false
set_option maxRecDepth 100000
set_option maxHeartbeats 4000000
/-! K1: packing that may refuse -/
namespace K3
open PySem PySem.Spec PyProof.Rows L2
theorem getD_at {l : List Int} {i : Nat} (h : i < l.length) : (l.map V.int)[i]? = some (V.int (l.getD i 0)) := by
  rw [List.getElem?_map, List.getD_eq_getElem?_getD, List.getElem?_eq_getElem h]
  rfl
/-- all numbers are from 0 on, below b -/
def Below (b : Int) (ns : List Int) : Prop := ∀ n ∈ ns, 0 ≤ n ∧ n < b
/-- the first that isn't stands at i -/
def FirstBad (b : Int) (ns : List Int) (i : Nat) : Prop := (∃ n, ns[i]? = some n ∧ ¬ (0 ≤ n ∧ n < b)) ∧ ∀ j m, j < i → ns[j]? = some m → 0 ≤ m ∧ m < b
theorem FirstBad.not {b : Int} {ns : List Int} {i : Nat} (h : FirstBad b ns i) : ¬ Below b ns := fun z => by
  obtain ⟨⟨n, h1, h2⟩, _⟩ := h
  exact h2 (z n (List.mem_of_getElem? h1))
theorem FirstBad.eq {b : Int} {ns : List Int} {i j : Nat} (h : FirstBad b ns i) (g : FirstBad b ns j) : i = j := by
  obtain ⟨⟨n, h1, h2⟩, h3⟩ := h
  obtain ⟨⟨m, g1, g2⟩, g3⟩ := g
  rcases Nat.lt_trichotomy i j with z | z | z
  · exact absurd (g3 i n z h1) h2
  · exact z
  · exact absurd (h3 j m z g1) g2
section
variable {P : Program} {w : World} {K : PySem.W.Frag} {mg : Str → Option Value} {base : Heap}
def spPerX (CN : Addr) : Sp := fun vs H Q E => ∃ b : Int, vs = [.int b] ∧ b.natAbs < 2 ^ 64 ∧ (2 ≤ b → b ≤ 10000 → Q (.int (perC b)) H) ∧ (¬ (2 ≤ b ∧ b ≤ 10000) → E (.ref CN) none H)
theorem ok_per_cellX {CN : Addr} (T : Txt mg) (XN : Exc1 K mg "BadNumber" CN) (D : Df K mg "per_cell" s_per_cell P_per_cell) : Fn P w K mg base (L2.CX P w) 1 "per_cell" P_per_cell (spPerX CN) := by
  refine D.okX sc_per_cell (fun vs H Q E h => ?_) (fun f cdv A outer s H vs Q E hr h => ?_)
  · obtain ⟨b, rfl, _⟩ := h
    rfl
  · obtain ⟨b, rfl, hb, k, kE⟩ := h
    have nd := sc_per_cell.nd
    refine ⟨_, (pss_cons (ps_if (PW.pt (pw_or (pt_cmpR op_lt (pv 0) (pe_gint T.c_LEAST_BASE) (nomark _)) (pw_or1 (pt_cmpR op_gt (pv 0) (pe_gint T.c_CELL_SIZE) (nomark _)))))
  (pss_one (ps_raise rfl (takes_of rfl rfl rfl rfl) (SkE.pmk_own1 PySem.F.excBase_ValueError XN.x XN.g XN.k (raises_own XN.b XN.t) rfl (pe_joined (.cons pe_str (.cons (pe_fmt (pe_gint T.c_LEAST_BASE)) (.cons pe_str (.cons (pe_fmt (pe_gint T.c_CELL_SIZE)) (.cons pe_str (.cons (pe_fmt (pv 0)) .nil))))))))))
  pss_nil)
  (pss_cons (ps_set (i := 1) nd rfl (by first | exact Or.inl rfl | exact Or.inr rfl) pe_int)
  (pss_cons (ps_set (i := 2) nd rfl (by first | exact Or.inl rfl | exact Or.inr rfl) (pv 0))
  (pss_cons (ps_while (passes_of rfl) (pt_cmpR op_le (pv 2) (pe_gint T.c_CELL_SIZE) (nomark _))
  (pss_cons (ps_aug (i := 1) nd rfl (by first | exact Or.inl rfl | exact Or.inr rfl) pe_int ip_add)
  (pss_one (ps_aug (i := 2) nd rfl (by first | exact Or.inl rfl | exact Or.inr rfl) (pv 0) iop_mul))))
  (pss_one (ps_ret (pv 1))))))), ?_⟩
    refine ⟨_, rfl, _, _, rfl, rfl, _, rfl, ?_⟩
    refine ite2 (fun c => ?_) (fun c1 => ?_)
    · exact ⟨_, rfl, str_fits (str_add (show Str.empty.length ≤ 0 from Nat.le_refl 0) (show (Str.ofString "a base is from ").length ≤ 15 by decide)) (by decide), .inr ⟨_, rfl, int_log (show (2 : Int).natAbs < 2 ^ 64 by decide), _, rfl, str_fits (str_add (str_add (show Str.empty.length ≤ 0 from Nat.le_refl 0) (show (Str.ofString "a base is from ").length ≤ 15 by decide)) (int_len (show (2 : Int).natAbs < 2 ^ 64 by decide))) (by decide), _, rfl, str_fits (str_add (str_add (str_add (show Str.empty.length ≤ 0 from Nat.le_refl 0) (show (Str.ofString "a base is from ").length ≤ 15 by decide)) (int_len (show (2 : Int).natAbs < 2 ^ 64 by decide))) (show (Str.ofString " to ").length ≤ 4 by decide)) (by decide), .inr ⟨_, rfl, int_log (show (10000 : Int).natAbs < 2 ^ 64 by decide), _, rfl, str_fits (str_add (str_add (str_add (str_add (show Str.empty.length ≤ 0 from Nat.le_refl 0) (show (Str.ofString "a base is from ").length ≤ 15 by decide)) (int_len (show (2 : Int).natAbs < 2 ^ 64 by decide))) (show (Str.ofString " to ").length ≤ 4 by decide)) (int_len (show (10000 : Int).natAbs < 2 ^ 64 by decide))) (by decide), _, rfl, str_fits (str_add (str_add (str_add (str_add (str_add (show Str.empty.length ≤ 0 from Nat.le_refl 0) (show (Str.ofString "a base is from ").length ≤ 15 by decide)) (int_len (show (2 : Int).natAbs < 2 ^ 64 by decide))) (show (Str.ofString " to ").length ≤ 4 by decide)) (int_len (show (10000 : Int).natAbs < 2 ^ 64 by decide))) (show (Str.ofString ", not ").length ≤ 6 by decide)) (by decide), _, rfl, .inr ⟨_, rfl, int_log hb, _, rfl, str_fits (str_add (str_add (str_add (str_add (str_add (str_add (show Str.empty.length ≤ 0 from Nat.le_refl 0) (show (Str.ofString "a base is from ").length ≤ 15 by decide)) (int_len (show (2 : Int).natAbs < 2 ^ 64 by decide))) (show (Str.ofString " to ").length ≤ 4 by decide)) (int_len (show (10000 : Int).natAbs < 2 ^ 64 by decide))) (show (Str.ofString ", not ").length ≤ 6 by decide)) (int_len hb)) (by decide), kE (fun z => absurd (of_decide_eq_true c) (by omega))⟩⟩⟩⟩
    refine ⟨_, rfl, _, _, rfl, rfl, _, rfl, ?_⟩
    refine ite2 (fun c => ?_) (fun c2 => ?_)
    · exact ⟨_, rfl, str_fits (str_add (show Str.empty.length ≤ 0 from Nat.le_refl 0) (show (Str.ofString "a base is from ").length ≤ 15 by decide)) (by decide), .inr ⟨_, rfl, int_log (show (2 : Int).natAbs < 2 ^ 64 by decide), _, rfl, str_fits (str_add (str_add (show Str.empty.length ≤ 0 from Nat.le_refl 0) (show (Str.ofString "a base is from ").length ≤ 15 by decide)) (int_len (show (2 : Int).natAbs < 2 ^ 64 by decide))) (by decide), _, rfl, str_fits (str_add (str_add (str_add (show Str.empty.length ≤ 0 from Nat.le_refl 0) (show (Str.ofString "a base is from ").length ≤ 15 by decide)) (int_len (show (2 : Int).natAbs < 2 ^ 64 by decide))) (show (Str.ofString " to ").length ≤ 4 by decide)) (by decide), .inr ⟨_, rfl, int_log (show (10000 : Int).natAbs < 2 ^ 64 by decide), _, rfl, str_fits (str_add (str_add (str_add (str_add (show Str.empty.length ≤ 0 from Nat.le_refl 0) (show (Str.ofString "a base is from ").length ≤ 15 by decide)) (int_len (show (2 : Int).natAbs < 2 ^ 64 by decide))) (show (Str.ofString " to ").length ≤ 4 by decide)) (int_len (show (10000 : Int).natAbs < 2 ^ 64 by decide))) (by decide), _, rfl, str_fits (str_add (str_add (str_add (str_add (str_add (show Str.empty.length ≤ 0 from Nat.le_refl 0) (show (Str.ofString "a base is from ").length ≤ 15 by decide)) (int_len (show (2 : Int).natAbs < 2 ^ 64 by decide))) (show (Str.ofString " to ").length ≤ 4 by decide)) (int_len (show (10000 : Int).natAbs < 2 ^ 64 by decide))) (show (Str.ofString ", not ").length ≤ 6 by decide)) (by decide), _, rfl, .inr ⟨_, rfl, int_log hb, _, rfl, str_fits (str_add (str_add (str_add (str_add (str_add (str_add (show Str.empty.length ≤ 0 from Nat.le_refl 0) (show (Str.ofString "a base is from ").length ≤ 15 by decide)) (int_len (show (2 : Int).natAbs < 2 ^ 64 by decide))) (show (Str.ofString " to ").length ≤ 4 by decide)) (int_len (show (10000 : Int).natAbs < 2 ^ 64 by decide))) (show (Str.ofString ", not ").length ≤ 6 by decide)) (int_len hb)) (by decide), kE (fun z => absurd (of_decide_eq_true c) (by omega))⟩⟩⟩⟩
    have h2 : 2 ≤ b := by
      have : ¬ b < 2 := fun z => c1 (decide_eq_true z)
      omega
    have h1 : b ≤ 10000 := by
      have : ¬ 10000 < b := fun z => c2 (decide_eq_true z)
      omega
    have k := k h2 h1
    refine ⟨_, rfl, ?_⟩
    refine while_by (fun σ H' => ∃ (m : Nat) (r : Int) (f : Nat), σ = [some (.int b), some (.int m), some (.int r)] ∧ PerAt b m r f ∧ H' = H) (fun σ _ => reach σ) ⟨0, b, 14, rfl, .start h2, rfl⟩ ?_ (fun σ H Q Q' im h => ?_)
    · rintro σ H' ⟨m, r, f, rfl, A, rfl⟩
      refine ⟨_, rfl, _, _, rfl, rfl, _, rfl, ?_⟩
      refine ite2 (fun c => ?_) (fun c => ?_)
      · have c' : r ≤ 10000 := of_decide_eq_true c
        obtain ⟨f', A'⟩ := A.turn h2 c'
        refine ⟨_, rfl, _, _, rfl, rfl, _, rfl, _, rfl, _, _, rfl, rfl, .inr (by constructor <;> omega), ?_⟩
        have p1 := A.pos
        have p2 := A'.pos
        have p3 : r * 2 ≤ r * b := Int.mul_le_mul_of_nonneg_left h2 (by omega)
        refine ⟨⟨m + 1, r * b, f', rfl, A', rfl⟩, ?_⟩
        show (10001 - r * b).toNat < (10001 - r).toNat
        omega
      · have c' : ¬ r ≤ 10000 := fun z => c (decide_eq_true z)
        refine ⟨_, rfl, ?_⟩
        rw [A.done c'] at k
        exact k
    · obtain ⟨v, e, i, j, e1, e2, kk, e3, q⟩ := h
      exact ⟨v, e, i, j, e1, e2, kk, e3, im _ _ q⟩
def spChkX (K : PySem.W.Frag) (CV : Addr) : Sp := fun vs H Q E => ∃ (b : Int) (a : Addr) (ns : List Int), vs = [.int b, .ref a] ∧ SqS K H a (ns.map V.int) ∧ ns.length ≤ 1000 ∧ (Below b ns → ∀ H', Same H H' → Q .non H') ∧
  (∀ i, FirstBad b ns i → ∀ d H', Same H H' → H d = none → H' d = some (.xd [("place", .int i)]) → E (.ref CV) (some d) H')
theorem ok_check_belowX {CV CE : Addr} (T : Txt mg) (XB : ExcB K mg CE) (XV : ExcP K mg "BadValues" s_BadValues CV) (D : Df K mg "check_below" s_check_below P_check_below) : Fn P w K mg base (L2.CX P w) 3 "check_below" P_check_below (spChkX K CV) := by
  refine D.okX sc_check_below (fun vs H Q E h => ?_) (fun f cdv A outer s H vs Q E hr h => ?_)
  · obtain ⟨b, a, ns, rfl, _⟩ := h
    rfl
  · obtain ⟨b, a, ns, rfl, hS, hl, k, kE⟩ := h
    have nd := sc_check_below.nd
    refine ⟨_, (pss_one (ps_for (passes_of rfl) rfl (pi_enumS (by rfl) T.b_enumerate (pa_cons (pv 1) pa_nil)) (pg_tup (by rfl) (pgs_cons (pg_name (i := 2) nd rfl (by first | exact Or.inl rfl | exact Or.inr rfl)) (pgs_cons (pg_name (i := 3) nd rfl (by first | exact Or.inl rfl | exact Or.inr rfl)) pgs_nil)))
  (pss_one (ps_if (PW.pt (pw_or (pt_cmpR op_lt (pv 3) pe_int (nomark _)) (pw_or1 (pt_cmpR op_ge (pv 3) (pv 0) (nomark _)))))
  (pss_one (ps_raise rfl (takes_of rfl rfl rfl rfl) (pmk_pl XV (ok_initV XB XV) hr (pv 2))))
  pss_nil)))), ?_⟩
    rcases hS with hS | hS
    · refine ⟨_, rfl, a, rfl, .inl ⟨_, hS, for_it walk_enum (fun i σ H' => (∃ v1 v2, σ = [some (.int b), some (.ref a), v1, v2]) ∧ Same H H' ∧ ∀ j m, j < i → ns[j]? = some m → 0 ≤ m ∧ m < b) ⟨⟨none, none, rfl⟩, Same.refl H, fun _ _ h => absurd h (Nat.not_lt_zero _)⟩ (fun i σ H' _ ⟨_, s5, _⟩ => s5.seq hS) ?_ ?_⟩⟩
      · rintro i x σ H1 H2 hi ⟨⟨v1, v2, rfl⟩, s5, gd⟩ ⟨T0, x0, y0, rfl, nT, rfl, e1, e2⟩
        obtain ⟨z, hz, rfl⟩ := map_at e2
        obtain rfl := Option.some.inj e1
        have sT := s5.upd' (o := .tup [.int (i : Nat), .int z]) nT
        refine ⟨T0, _, rfl, SqT.of upd_same, rfl, _, _, rfl, _, _, rfl, rfl, ?_⟩
        have hi' : i < ns.length := by rw [List.length_map] at hi; exact hi
        have hik : (i : Int).natAbs < 2 ^ 64 := by omega
        have bad : ¬ (0 ≤ z ∧ z < b) → FirstBad b ns i := fun nz => ⟨⟨z, hz, nz⟩, gd⟩
        refine ⟨_, rfl, _, _, rfl, rfl, _, rfl, ?_⟩
        refine ite2 (fun c => ?_) (fun c1 => ?_)
        · exact ⟨_, rfl, mk_pl XV.o XV.nf hik fun d H2 s2 n2 h2 => kE i (bad fun q => absurd (of_decide_eq_true c) (by omega)) d H2 (sT.trans s2) (sT.free n2) h2⟩
        refine ⟨_, rfl, _, rfl, _, _, rfl, rfl, _, rfl, ?_⟩
        refine ite2 (fun c => ?_) (fun c2 => ?_)
        · exact ⟨_, rfl, mk_pl XV.o XV.nf hik fun d H2 s2 n2 h2 => kE i (bad fun q => absurd (of_decide_eq_true c) (by omega)) d H2 (sT.trans s2) (sT.free n2) h2⟩
        refine ⟨⟨_, _, rfl⟩, sT, fun j m hj hm => ?_⟩
        by_cases e : j = i
        · subst e
          rw [hz] at hm
          obtain rfl := Option.some.inj hm
          have a1 : ¬ z < 0 := fun q => c1 (decide_eq_true q)
          have a2 : ¬ b ≤ z := fun q => c2 (decide_eq_true q)
          omega
        · exact gd j m (by omega) hm
      · rintro σ H' ⟨⟨v1, v2, rfl⟩, s5, gd⟩
        refine k (fun n hn => ?_) _ s5
        obtain ⟨j, hj⟩ := List.getElem?_of_mem hn
        exact gd j n (by rw [List.length_map]; exact (List.getElem?_eq_some_iff.mp hj).1) hj
    · refine ⟨_, rfl, a, rfl, .inr ⟨_, hS, for_it walk_enumT (fun i σ H' => (∃ v1 v2, σ = [some (.int b), some (.ref a), v1, v2]) ∧ Same H H' ∧ ∀ j m, j < i → ns[j]? = some m → 0 ≤ m ∧ m < b) ⟨⟨none, none, rfl⟩, Same.refl H, fun _ _ h => absurd h (Nat.not_lt_zero _)⟩ (fun i σ H' _ ⟨_, s5, _⟩ => s5.seqT hS) ?_ ?_⟩⟩
      · rintro i x σ H1 H2 hi ⟨⟨v1, v2, rfl⟩, s5, gd⟩ ⟨T0, x0, y0, rfl, nT, rfl, e1, e2⟩
        obtain ⟨z, hz, rfl⟩ := map_at e2
        obtain rfl := Option.some.inj e1
        have sT := s5.upd' (o := .tup [.int (i : Nat), .int z]) nT
        refine ⟨T0, _, rfl, SqT.of upd_same, rfl, _, _, rfl, _, _, rfl, rfl, ?_⟩
        have hi' : i < ns.length := by rw [List.length_map] at hi; exact hi
        have hik : (i : Int).natAbs < 2 ^ 64 := by omega
        have bad : ¬ (0 ≤ z ∧ z < b) → FirstBad b ns i := fun nz => ⟨⟨z, hz, nz⟩, gd⟩
        refine ⟨_, rfl, _, _, rfl, rfl, _, rfl, ?_⟩
        refine ite2 (fun c => ?_) (fun c1 => ?_)
        · exact ⟨_, rfl, mk_pl XV.o XV.nf hik fun d H2 s2 n2 h2 => kE i (bad fun q => absurd (of_decide_eq_true c) (by omega)) d H2 (sT.trans s2) (sT.free n2) h2⟩
        refine ⟨_, rfl, _, rfl, _, _, rfl, rfl, _, rfl, ?_⟩
        refine ite2 (fun c => ?_) (fun c2 => ?_)
        · exact ⟨_, rfl, mk_pl XV.o XV.nf hik fun d H2 s2 n2 h2 => kE i (bad fun q => absurd (of_decide_eq_true c) (by omega)) d H2 (sT.trans s2) (sT.free n2) h2⟩
        refine ⟨⟨_, _, rfl⟩, sT, fun j m hj hm => ?_⟩
        by_cases e : j = i
        · subst e
          rw [hz] at hm
          obtain rfl := Option.some.inj hm
          have a1 : ¬ z < 0 := fun q => c1 (decide_eq_true q)
          have a2 : ¬ b ≤ z := fun q => c2 (decide_eq_true q)
          omega
        · exact gd j m (by omega) hm
      · rintro σ H' ⟨⟨v1, v2, rfl⟩, s5, gd⟩
        refine k (fun n hn => ?_) _ s5
        obtain ⟨j, hj⟩ := List.getElem?_of_mem hn
        exact gd j n (by rw [List.length_map]; exact (List.getElem?_eq_some_iff.mp hj).1) hj
def spPckX (K : PySem.W.Frag) (CN CV : Addr) : Sp := fun vs H Q E => ∃ (b : Int) (a : Addr) (ns : List Int), vs = [.int b, .ref a] ∧ b.natAbs < 2 ^ 64 ∧ SqL K H a (ns.map V.int) ∧ ns.length ≤ 1000 ∧
  (2 ≤ b → b ≤ 10000 → Below b ns → ∀ (H' : Hp) (p : Addr), Same H H' → H p = none → H' p = some (.tup ((K3.packed b ns).map V.int)) → Q (.ref p) H') ∧ (¬ (2 ≤ b ∧ b ≤ 10000) → E (.ref CN) none H) ∧
  (2 ≤ b → b ≤ 10000 → ∀ i, FirstBad b ns i → ∀ d H', Same H H' → H d = none → H' d = some (.xd [("place", .int i)]) → E (.ref CV) (some d) H')
theorem ok_packedX {CN CV : Addr} (T : Txt mg) (G_per_cell : Fn P w K mg base (L2.CX P w) 1 "per_cell" P_per_cell (spPerX CN)) (G_check_below : Fn P w K mg base (L2.CX P w) 3 "check_below" P_check_below (spChkX K CV))
    (G_cell_of : Fn P w K mg base CX0 1 "cell_of" P_cell_of (spCell K)) (D : Df K mg "packed" s_packed P_packed) : Fn P w K mg base (L2.CX P w) 4 "packed" P_packed (spPckX K CN CV) := by
  refine D.okX sc_packed (fun vs H Q E h => ?_) (fun f cdv A outer s H vs Q E hr h => ?_)
  · obtain ⟨b, a, ns, rfl, _⟩ := h
    rfl
  · obtain ⟨b, a, ns, rfl, hb64, hS, hl, k, kN, kV⟩ := h
    have nd := sc_packed.nd
    refine ⟨_, (pss_cons (ps_set (i := 2) nd rfl (by first | exact Or.inl rfl | exact Or.inr rfl) (pe_cS (E := fun _ => E) G_per_cell (hr.mono (by decide)) (fun σ => passAt (takes_of rfl rfl rfl rfl) σ) (pa_cons (pv 0) pa_nil)))
  (pss_cons (ps_expr (pe_cS (E := fun _ => E) G_check_below (hr.mono (by decide)) (fun σ => passAt (takes_of rfl rfl rfl rfl) σ) (pa_cons (pv 0) (pa_cons (pv 1) pa_nil))))
  (pss_one (ps_ret (pe_callTy call_tuple_of (by rfl) T.b_tuple (by decide +kernel) (pa_cons (pe_lc (own := [("at", 3)]) (g := gName 3) (by rfl) nd  (pi_range3 (by rfl) T.b_range (pa_cons pe_int (pa_cons (pe_callB call_len_seq (by rfl) T.b_len (by decide +kernel) (pa_cons (pv 1) pa_nil)) (pa_cons (pv 2) pa_nil)))) (blkOk_by (own := [("at", 3)]) (N := N_packed) (sc := defScope s_packed) (by decide +kernel)) (fun _ _ _ _ _ => pg_name (i := 3) nd rfl (Or.inl rfl)) (fun _ _ _ _ _ => pts_nil) (fun _ _ _ _ _ => (pe_c G_cell_of (hr.mono (by decide)) pass0 (pa_cons (pv 0) (pa_cons (pe_slice (sl_listK (K := K) rfl) (pv 1) (po_some (pv 3)) (po_some (pe_op op_add (pv 3) (pv 2)))) pa_nil))))) pa_nil)))))), ?_⟩
    refine ⟨_, rfl, b, rfl, hb64, fun h2 h1 => ?_, kN⟩
    have hk := perC_pos h1
    have hkl := perC_le b
    refine ⟨_, rfl, _, rfl, b, a, ns, rfl, .inl hS, hl, fun hB H1 s1 => ?_, kV h2 h1⟩
    have k := k h2 h1 hB
    refine ⟨_, rfl, a, _, rfl, .inl (s1.seq hS), _, rfl, _, _, _, cells (perC b) ns.length, rfl, ?_, ?_⟩
    · rw [List.length_map]
      exact rgC_up hk (by omega) (by omega)
    intro D nD
    have sD : Same H (upd H1 D (.lst [])) := s1.upd' nD
    have nDH : H D = none := s1.free nD
    refine lc_all walk_rangeC (fun i H' => Same H H' ∧ H' D = some (.lst (((List.range i).map (fun i => val b ((ns.drop (i * perC b)).take (perC b)))).map V.int))) ⟨sD, upd_same⟩ (fun _ _ _ _ => True.intro) ?_ ?_
    · rintro i x H2 H3 hi ⟨s2, hD⟩ ⟨rfl, rfl⟩
      have hc := (cells_lt hk).mp hi
      have e0 : (0 : Int) + (i : Int) * (perC b : Int) = ((i * perC b : Nat) : Int) := by rw [Int.natCast_mul]; omega
      refine ⟨_, rfl, _, rfl, _, rfl, _, rfl, _, rfl, _, rfl, _, _, rfl, rfl, _, rfl, a, _, rfl, s2.seq hS, fun p np => ?_⟩
      refine ⟨b, p, (ns.drop (i * perC b)).take (perC b), rfl, SqL.of ?_, h2, h1, ?_⟩
      · rw [upd_same, e0, cutV_part, List.map_take, List.map_drop]
      refine ⟨_, (upd_ne (ne_of_none hD np)).trans hD, ?_, Same.put (s2.upd' np) nDH, ?_⟩
      · rw [List.length_map, List.length_map, List.length_range, sizeLine_eq]
        have := cells_le (n := ns.length) hk
        omega
      · rw [upd_same, List.range_succ, List.map_append, List.map_append]
        rfl
    · rintro H2 ⟨s2, hD⟩
      refine ⟨_, _, rfl, .inl ⟨SqL.of hD, fun l nl => ?_⟩⟩
      rw [packed_eq h1]
      exact k _ _ (s2.upd' nl) (s2.free nl) upd_same
/-- what stands at a place of cells -/
def atCells (b : Int) (cs : List Int) (i : Nat) : Int := (digits b (perC b) (cs.getD (i / perC b) 0)).getD (i % perC b) 0
def spRdX (K : PySem.W.Frag) (CN CV : Addr) : Sp := fun vs H Q E => ∃ (b pl : Int) (a : Addr) (cs : List Int), vs = [.int b, .ref a, .int pl] ∧ b.natAbs < 2 ^ 64 ∧ pl.natAbs < 2 ^ 64 ∧ SqT K H a (cs.map V.int) ∧ cs.length ≤ 1000 ∧
  (2 ≤ b → b ≤ 10000 → Below 10000 cs → ∀ i : Nat, pl = i → i < perC b * cs.length → ∀ H', Same H H' → Q (.int (atCells b cs i)) H') ∧ (¬ (2 ≤ b ∧ b ≤ 10000) → E (.ref CN) none H) ∧
  (2 ≤ b → b ≤ 10000 → ∀ i, FirstBad 10000 cs i → ∀ d H', Same H H' → H d = none → H' d = some (.xd [("place", .int i)]) → E (.ref CV) (some d) H') ∧
  (2 ≤ b → b ≤ 10000 → Below 10000 cs → ¬ (0 ≤ pl ∧ pl < ((perC b * cs.length : Nat) : Int)) → ∀ H', Same H H' → E (.ref CN) none H')
end
end K3

set_option Elab.async false
set_option linter.all false
set_option maxRecDepth 100000
set_option maxHeartbeats 4000000
/-! K2: forms and cuts of what are no values; places that there aren't -/
namespace K3
open PySem PySem.Spec PyProof.Rows L2
/-- what a value is, at a place -/
def OkV (j : Nat) (m : Int) : Prop := j < 32 ∧ -9999 ≤ m ∧ m ≤ 9999
/-- the first place that refuses -/
def FirstBadV (ns : List Int) (i : Nat) : Prop := (ns = [] ∧ i = 0) ∨ ((∃ n, ns[i]? = some n ∧ ¬ OkV i n) ∧ ∀ j m, j < i → ns[j]? = some m → OkV j m)
section
variable {P : Program} {w : World} {K : PySem.W.Frag} {mg : Str → Option Value} {base : Heap}
def spChVX (K : PySem.W.Frag) (CV : Addr) : Sp := fun vs H _ E => ∃ (a : Addr) (ns : List Int) (i : Nat), vs = [.ref a] ∧ SqL K H a (ns.map V.int) ∧ ns.length ≤ 1000 ∧ FirstBadV ns i ∧
  ∀ d H', Same H H' → H d = none → H' d = some (.xd [("place", .int i)]) → E (.ref CV) (some d) H'
theorem ok_check_valuesX {CV CE : Addr} (T : Txt mg) (XB : ExcB K mg CE) (XV : ExcP K mg "BadValues" s_BadValues CV) (D : Df K mg "check_values" s_check_values P_check_values) : Fn P w K mg base (L2.CX P w) 3 "check_values" P_check_values (spChVX K CV) := by
  refine D.okX sc_check_values (fun vs H Q E h => ?_) (fun f cdv A outer s H vs Q E hr h => ?_)
  · obtain ⟨a, ns, i, rfl, _⟩ := h
    rfl
  · obtain ⟨a, ns, i, rfl, hS, hl, fb, kE⟩ := h
    have nd := sc_check_values.nd
    refine ⟨_, (pss_cons (ps_if (pt_cmpR op_eq (pe_callB call_len_seq (by rfl) T.b_len (by decide +kernel) (pa_cons (pv 0) pa_nil)) pe_int (nomark _))
  (pss_one (ps_raise rfl (takes_of rfl rfl rfl rfl) (pmk_pl XV (ok_initV XB XV) hr pe_int)))
  pss_nil)
  (pss_one (ps_for (passes_of rfl) rfl (pi_enum (by rfl) T.b_enumerate (pa_cons (pv 0) pa_nil)) (pg_tup (by rfl) (pgs_cons (pg_name (i := 1) nd rfl (by first | exact Or.inl rfl | exact Or.inr rfl)) (pgs_cons (pg_name (i := 2) nd rfl (by first | exact Or.inl rfl | exact Or.inr rfl)) pgs_nil)))
  (pss_one (ps_if (PW.pt (pw_or (pt_cmpR op_ge (pv 1) (pe_gint T.c_MOST_VALUES) (nomark _)) (pw_or (pt_cmpR op_lt (pv 2) (pe_un un_neg (pe_gint T.c_MOST)) (nomark _)) (pw_or1 (pt_cmpR op_gt (pv 2) (pe_gint T.c_MOST) (nomark _))))))
  (pss_one (ps_raise rfl (takes_of rfl rfl rfl rfl) (pmk_pl XV (ok_initV XB XV) hr (pv 1))))
  pss_nil))))), ?_⟩
    refine ⟨_, rfl, a, _, rfl, .inl hS, rfl, _, rfl, ?_⟩
    rw [List.length_map]
    refine ite2 (fun c => ?_) (fun c0 => ?_)
    · have c' := V.int.inj (of_decide_eq_true c)
      have e0 : ns = [] := List.length_eq_zero_iff.mp (by omega)
      have ei : i = 0 := by
        rcases fb with ⟨_, z⟩ | ⟨⟨n, z, _⟩, _⟩
        · exact z
        · rw [e0] at z
          cases z
      exact mk_pl (k := 0) XV.o XV.nf (by decide) fun d H2 s2 n2 h2 => kE d H2 s2 n2 (by rw [h2, ei]; rfl)
    have ne : ns ≠ [] := fun z => c0 (decide_eq_true (by rw [z]; rfl))
    obtain ⟨⟨n, hn, bad⟩, ahead⟩ : (∃ n, ns[i]? = some n ∧ ¬ OkV i n) ∧ ∀ j m, j < i → ns[j]? = some m → OkV j m := fb.resolve_left fun z => ne z.1
    have hin := (List.getElem?_eq_some_iff.mp hn).1
    refine ⟨_, rfl, a, _, rfl, hS, for_it walk_enum (fun j σ H' => (∃ v1 v2, σ = [some (.ref a), v1, v2]) ∧ Same H H' ∧ j ≤ i) ⟨⟨none, none, rfl⟩, Same.refl H, Nat.zero_le _⟩ (fun j σ H' _ ⟨_, s5, _⟩ => s5.seq hS) ?_ ?_⟩
    · rintro j x σ H1 H2 hj ⟨⟨v1, v2, rfl⟩, s5, ji⟩ ⟨T0, x0, y0, rfl, nT, rfl, e1, e2⟩
      obtain ⟨z, hz, rfl⟩ := map_at e2
      obtain rfl : V.int (j : Nat) = x0 := Option.some.inj e1
      have sT := s5.upd' (o := .tup [.int (j : Nat), .int z]) nT
      rw [List.length_map] at hj
      have hjk : (j : Int).natAbs < 2 ^ 64 := by omega
      have atI : ¬ OkV j z → j = i := fun nz => by
        by_cases e : j < i
        · exact absurd (ahead j z e hz) nz
        · omega
      refine ⟨T0, _, rfl, SqT.of upd_same, rfl, _, _, rfl, _, _, rfl, rfl, ?_⟩
      refine ⟨_, rfl, _, _, rfl, rfl, _, rfl, ?_⟩
      refine ite2 (fun c => ?_) (fun c1 => ?_)
      · exact ⟨_, rfl, mk_pl XV.o XV.nf hjk fun d H2 s2 n2 h2 => kE d H2 (sT.trans s2) (sT.free n2) (by rw [h2, atI fun q => absurd (of_decide_eq_true c) (by have := q.1; omega)])⟩
      refine ⟨_, rfl, _, rfl, _, _, rfl, rfl, _, rfl, ?_⟩
      refine ite2 (fun c => ?_) (fun c2 => ?_)
      · exact ⟨_, rfl, mk_pl XV.o XV.nf hjk fun d H2 s2 n2 h2 => kE d H2 (sT.trans s2) (sT.free n2) (by rw [h2, atI fun q => absurd (of_decide_eq_true c) (by have := q.2.1; omega)])⟩
      refine ⟨_, rfl, _, _, rfl, rfl, _, rfl, ?_⟩
      refine ite2 (fun c => ?_) (fun c3 => ?_)
      · exact ⟨_, rfl, mk_pl XV.o XV.nf hjk fun d H2 s2 n2 h2 => kE d H2 (sT.trans s2) (sT.free n2) (by rw [h2, atI fun q => absurd (of_decide_eq_true c) (by have := q.2.2; omega)])⟩
      have okz : OkV j z := by
        have a1 : ¬ (32 : Int) ≤ (j : Int) := fun q => c1 (decide_eq_true q)
        have a2 : ¬ z < -9999 := fun q => c2 (decide_eq_true q)
        have a3 : ¬ 9999 < z := fun q => c3 (decide_eq_true q)
        exact ⟨by omega, by omega, by omega⟩
      refine ⟨⟨_, _, rfl⟩, sT, ?_⟩
      have : j ≠ i := fun e => by
        subst e
        rw [hz] at hn
        obtain rfl := Option.some.inj hn
        exact bad okz
      omega
    · rintro σ H' ⟨⟨v1, v2, rfl⟩, s5, ji⟩
      rw [List.length_map] at ji
      omega
abbrev s_cut : Stmt := top 49
abbrev N_cut : List Str := ["values", "forms", "start", "end"]
abbrev P_cut : List Str := ["values"]
theorem sc_cut : FnScope N_cut P_cut (defScope s_cut) := ⟨rfl, rfl, rfl, by decide +kernel, rfl, by decide +kernel, by decide +kernel⟩
abbrev s_prices : Stmt := top 51
abbrev N_prices : List Str := ["values", "fewest", "place", "start", "end", "cells"]
abbrev P_prices : List Str := ["values"]
theorem sc_prices : FnScope N_prices P_prices (defScope s_prices) := ⟨rfl, rfl, rfl, by decide +kernel, rfl, by decide +kernel, by decide +kernel⟩
abbrev s_bound : Stmt := top 52
abbrev N_bound : List Str := ["values", "told", "start", "end", "cells"]
abbrev P_bound : List Str := ["values", "told"]
theorem sc_bound : FnScope N_bound P_bound (defScope s_bound) := ⟨rfl, rfl, rfl, by decide +kernel, rfl, by decide +kernel, by decide +kernel⟩
theorem ok_least_formV {CV : Addr} (D : Df K mg "least_form" s_least_form P_least_form) (G_check_valuesX : Fn P w K mg base (L2.CX P w) 3 "check_values" P_check_values (spChVX K CV)) : Fn P w K mg base (L2.CX P w) 4 "least_form" P_least_form (spChVX K CV) := by
  refine D.okX sc_least_form (fun vs H Q E h => ?_) (fun f cdv A outer s H vs Q E hr h => ?_)
  · obtain ⟨a, ns, i, rfl, _⟩ := h
    rfl
  · obtain ⟨a, ns, i, rfl, hS, hl, fb, kE⟩ := h
    have nd := sc_least_form.nd
    exact ⟨_, (pss_cons (ps_expr (pe_cS (E := fun _ => E) G_check_valuesX (hr.mono (by decide)) (fun σ => passAt (takes_of rfl rfl rfl rfl) σ) (pa_cons (pv 0) pa_nil)))
  pss_never), _, rfl, a, ns, i, rfl, hS, hl, fb, kE⟩
theorem ok_cutV {CV : Addr} (D : Df K mg "cut" s_cut P_cut) (G_check_valuesX : Fn P w K mg base (L2.CX P w) 3 "check_values" P_check_values (spChVX K CV)) : Fn P w K mg base (L2.CX P w) 4 "cut" P_cut (spChVX K CV) := by
  refine D.okX sc_cut (fun vs H Q E h => ?_) (fun f cdv A outer s H vs Q E hr h => ?_)
  · obtain ⟨a, ns, i, rfl, _⟩ := h
    rfl
  · obtain ⟨a, ns, i, rfl, hS, hl, fb, kE⟩ := h
    have nd := sc_cut.nd
    exact ⟨_, (pss_cons (ps_expr (pe_cS (E := fun _ => E) G_check_valuesX (hr.mono (by decide)) (fun σ => passAt (takes_of rfl rfl rfl rfl) σ) (pa_cons (pv 0) pa_nil)))
  pss_never), _, rfl, a, ns, i, rfl, hS, hl, fb, kE⟩
theorem ok_pricesV {CV : Addr} (D : Df K mg "prices" s_prices P_prices) (G_check_valuesX : Fn P w K mg base (L2.CX P w) 3 "check_values" P_check_values (spChVX K CV)) : Fn P w K mg base (L2.CX P w) 4 "prices" P_prices (spChVX K CV) := by
  refine D.okX sc_prices (fun vs H Q E h => ?_) (fun f cdv A outer s H vs Q E hr h => ?_)
  · obtain ⟨a, ns, i, rfl, _⟩ := h
    rfl
  · obtain ⟨a, ns, i, rfl, hS, hl, fb, kE⟩ := h
    have nd := sc_prices.nd
    exact ⟨_, (pss_cons (ps_expr (pe_cS (E := fun _ => E) G_check_valuesX (hr.mono (by decide)) (fun σ => passAt (takes_of rfl rfl rfl rfl) σ) (pa_cons (pv 0) pa_nil)))
  pss_never), _, rfl, a, ns, i, rfl, hS, hl, fb, kE⟩
def spBdX (K : PySem.W.Frag) (CV : Addr) : Sp := fun vs H _ E => ∃ (a b : Addr) (ns : List Int) (i : Nat), vs = [.ref a, .ref b] ∧ SqL K H a (ns.map V.int) ∧ ns.length ≤ 1000 ∧ FirstBadV ns i ∧
  ∀ d H', Same H H' → H d = none → H' d = some (.xd [("place", .int i)]) → E (.ref CV) (some d) H'
theorem ok_boundV {CV : Addr} (D : Df K mg "bound" s_bound P_bound) (G_check_valuesX : Fn P w K mg base (L2.CX P w) 3 "check_values" P_check_values (spChVX K CV)) : Fn P w K mg base (L2.CX P w) 4 "bound" P_bound (spBdX K CV) := by
  refine D.okX sc_bound (fun vs H Q E h => ?_) (fun f cdv A outer s H vs Q E hr h => ?_)
  · obtain ⟨a, b, ns, i, rfl, _⟩ := h
    rfl
  · obtain ⟨a, b, ns, i, rfl, hS, hl, fb, kE⟩ := h
    have nd := sc_bound.nd
    exact ⟨_, (pss_cons (ps_expr (pe_cS (E := fun _ => E) G_check_valuesX (hr.mono (by decide)) (fun σ => passAt (takes_of rfl rfl rfl rfl) σ) (pa_cons (pv 0) pa_nil)))
  pss_never), _, rfl, a, ns, i, rfl, hS, hl, fb, kE⟩
def spVatX (K : PySem.W.Frag) (CN : Addr) : Sp := fun vs H _ E => ∃ (a : Addr) (F : Form) (pl : Int), vs = [.ref a, .int pl] ∧ IsF K H a F ∧ FOk F ∧ pl.natAbs < 2 ^ 64 ∧ (readF F).length ≤ 1000 ∧ ¬ (0 ≤ pl ∧ pl < ((readF F).length : Int)) ∧ ∀ H', Same H H' → E (.ref CN) none H'
theorem ok_value_atX {CN : Addr} (T : Txt mg) (XN : Exc1 K mg "BadNumber" CN) (D : Df K mg "value_at" s_value_at P_value_at) (G_values_of : Fn P w K mg base CX0 6 "values_of" P_values_of (spVof K)) : Fn P w K mg base (L2.CX P w) 7 "value_at" P_value_at (spVatX K CN) := by
  refine D.okX sc_value_at (fun vs H Q E h => ?_) (fun f cdv A outer s H vs Q E hr h => ?_)
  · obtain ⟨a, F, pl, rfl, _⟩ := h
    rfl
  · obtain ⟨a, F, pl, rfl, hF, ok, hp64, hl, bad, kE⟩ := h
    have nd := sc_value_at.nd
    refine ⟨_, (pss_cons (ps_set (i := 2) nd rfl (by first | exact Or.inl rfl | exact Or.inr rfl) (pe_c G_values_of (hr.mono (by decide)) pass0 (pa_cons (pv 0) pa_nil)))
  (pss_cons (ps_if (PW.pt (pw_or (pt_cmpR op_lt (pv 1) pe_int (nomark _)) (pw_or1 (pt_cmpR op_ge (pv 1) (pe_callB call_len_seq (by rfl) T.b_len (by decide +kernel) (pa_cons (pv 2) pa_nil)) (nomark _)))))
  (pss_one (ps_raise rfl (takes_of rfl rfl rfl rfl) (SkE.pmk_own1 PySem.F.excBase_ValueError XN.x XN.g XN.k (raises_own XN.b XN.t) rfl (pe_joined (.cons (pe_fmt (pe_callB call_len_seq (by rfl) T.b_len (by decide +kernel) (pa_cons (pv 2) pa_nil))) (.cons pe_str (.cons (pe_fmt (pv 1)) .nil)))))))
  pss_nil)
  pss_never)), ?_⟩
    refine ⟨_, rfl, a, F, rfl, hF, ok, fun H1 p s1 np hp => ?_⟩
    have hlen : ((((readF F).map V.int).length : Nat) : Int).natAbs < 2 ^ 64 := by
      rw [List.length_map]
      omega
    refine ⟨_, rfl, _, _, rfl, rfl, _, rfl, ?_⟩
    refine ite2 (fun c => ⟨_, rfl, p, _, rfl, .inl (SqL.of hp), .inr ⟨_, rfl, int_log hlen, _, rfl, str_fits (str_add (show Str.empty.length ≤ 0 from Nat.le_refl 0) (int_len hlen)) (by decide), _, rfl, str_fits (str_add (str_add (show Str.empty.length ≤ 0 from Nat.le_refl 0) (int_len hlen)) (show (Str.ofString " values have no place ").length ≤ 22 by decide)) (by decide), _, rfl, .inr ⟨_, rfl, int_log hp64, _, rfl, str_fits (str_add (str_add (str_add (show Str.empty.length ≤ 0 from Nat.le_refl 0) (int_len hlen)) (show (Str.ofString " values have no place ").length ≤ 22 by decide)) (int_len hp64)) (by decide), kE _ s1⟩⟩⟩) (fun c1 => ?_)
    refine ⟨_, rfl, _, rfl, p, _, rfl, .inl (SqL.of hp), _, _, rfl, rfl, _, rfl, ?_⟩
    refine ite2 (fun c => ⟨_, rfl, p, _, rfl, .inl (SqL.of hp), .inr ⟨_, rfl, int_log hlen, _, rfl, str_fits (str_add (show Str.empty.length ≤ 0 from Nat.le_refl 0) (int_len hlen)) (by decide), _, rfl, str_fits (str_add (str_add (show Str.empty.length ≤ 0 from Nat.le_refl 0) (int_len hlen)) (show (Str.ofString " values have no place ").length ≤ 22 by decide)) (by decide), _, rfl, .inr ⟨_, rfl, int_log hp64, _, rfl, str_fits (str_add (str_add (str_add (show Str.empty.length ≤ 0 from Nat.le_refl 0) (int_len hlen)) (show (Str.ofString " values have no place ").length ≤ 22 by decide)) (int_len hp64)) (by decide), kE _ s1⟩⟩⟩) (fun c2 => ?_)
    refine absurd ⟨?_, ?_⟩ bad
    · have : ¬ pl < 0 := fun z => c1 (decide_eq_true z)
      omega
    · have : ¬ (((readF F).map V.int).length : Int) ≤ pl := fun z => c2 (decide_eq_true z)
      rw [List.length_map] at this
      omega
/-- a name that no form has -/
def spLaidN (K : PySem.W.Frag) (d CN : Addr) : Sp := fun vs H _ E => ∃ (z : Str) (x : V), vs = [.str z, x] ∧ PySem.W.nsIn K d z = some none ∧ E (.ref CN) none H
theorem ok_laidN {d CN : Addr} (M : Makers P w K mg base d) (XN : Exc1 K mg "NoForm" CN) (D : Df K mg "laid" s_laid P_laid) : Fn P w K mg base (L2.CX P w) 1 "laid" P_laid (spLaidN K d CN) := by
  refine D.okX sc_laid (fun vs H Q E h => ?_) (fun f cdv A outer s H vs Q E hr h => ?_)
  · obtain ⟨z, x, rfl, _⟩ := h
    rfl
  · obtain ⟨z, x, rfl, hz, kE⟩ := h
    have nd := sc_laid.nd
    have hM := M.g
    obtain ⟨es, n, DM, _⟩ := M.keys.ex
    refine ⟨_, (pss_cons (ps_if (pt_cmpR (op_notIn_kd DM) (pv 0) (pe_glob (v := .ref d) (by rfl) hM rfl) (by rfl))
  (pss_one (ps_raise rfl (takes_of rfl rfl rfl rfl) (pmk_own PySem.F.excBase_ValueError XN.x XN.g XN.k (raises_own XN.b XN.t) rfl)))
  pss_nil)
  pss_never), ?_⟩
    refine ⟨_, rfl, z, _, rfl, rfl, hz, _, rfl, ?_⟩
    exact ite2 (fun _ => kE) (fun c => absurd rfl c)
/-- .. of what are no values -/
def spLaidV (K : PySem.W.Frag) (CV : Addr) : Sp := fun vs H _ E => ∃ (j : Nat) (a : Addr) (ns : List Int) (i : Nat), vs = [.str (nmOf j), .ref a] ∧ j < 5 ∧ SqL K H a (ns.map V.int) ∧ ns.length ≤ 1000 ∧ FirstBadV ns i ∧
  ∀ d H', Same H H' → H d = none → H' d = some (.xd [("place", .int i)]) → E (.ref CV) (some d) H'
theorem ok_laidV {d CV : Addr} (M : Makers P w K mg base d) (D : Df K mg "laid" s_laid P_laid) (G_check_valuesX : Fn P w K mg base (L2.CX P w) 3 "check_values" P_check_values (spChVX K CV)) : Fn P w K mg base (L2.CX P w) 4 "laid" P_laid (spLaidV K CV) := by
  refine D.okX sc_laid (fun vs H Q E h => ?_) (fun f cdv A outer s H vs Q E hr h => ?_)
  · obtain ⟨j, a, ns, i, rfl, _⟩ := h
    rfl
  · obtain ⟨j, a, ns, i, rfl, hj, hS, hl, fb, kE⟩ := h
    have nd := sc_laid.nd
    have hM := M.g
    obtain ⟨es, n, DM, _⟩ := M.keys.ex
    refine ⟨_, (pss_cons (ps_if (pt_cmpR (op_notIn_kd DM) (pv 0) (pe_glob (v := .ref d) (by rfl) hM rfl) (by rfl))
  (pss_one ps_never)
  pss_nil)
  (pss_cons (ps_expr (pe_cS (E := fun _ => E) G_check_valuesX (hr.mono (by decide)) (fun σ => passAt (takes_of rfl rfl rfl rfl) σ) (pa_cons (pv 1) pa_nil)))
  pss_never)), ?_⟩
    obtain ⟨fm, hh, hkd⟩ := M.all j hj
    obtain ⟨_, _, u, _, _, hns, _⟩ := id hkd
    refine ⟨_, rfl, nmOf j, _, rfl, rfl, hns, _, rfl, ?_⟩
    refine ite2 (fun c => Bool.noConfusion (show false = true from c)) (fun _ => ?_)
    exact ⟨_, rfl, a, ns, i, rfl, hS, hl, fb, kE⟩
end
end K3

set_option Elab.async false
set_option linter.all false
set_option maxRecDepth 100000
set_option maxHeartbeats 4000000
/-! KM: helper defs that make lambdas: their code objects are told, and what they keep -/
namespace K3
open PySem PySem.Spec PyProof.Rows L2
/-- a def by its name, its code object at c -/
structure DfT (K : PySem.W.Frag) (mg : Str → Option Value) (x : Str) (st : Stmt) (ps : List Str) (c : Addr) : Prop where
  ex : ∃ (f : Addr) (fd : FuncData), FunD K x x (defArgs st) (defBody st) (defScope st) [] [] f fd ∧ fd.code = .ref c ∧ mg x = some (.ref f) ∧ Binds K fd ps []
section
variable {P : Program} {w : World} {K : PySem.W.Frag} {mg : Str → Option Value} {base : Heap}
theorem DfT.ok {x : Str} {st : Stmt} {N ps : List Str} {k : Nat} {sp : Sp} {c : Addr} (D : DfT K mg x st ps c) (S : FnScope N ps (defScope st)) (len : ∀ vs H Q E, sp vs H Q E → vs.length = ps.length)
    (hbody : ∀ (f : Addr) (A : Around) (outer : List Env) (s : Shared) (H : Hp) (vs : List V) (Q : VK) (E : XK), Room k (A.deeper (envOfC x (defScope st) s.heap.objs.size f (.ref c))) → sp vs H Q E →
      ∃ t, PSs (cxOf CX0 P w K mg base N x (defScope st) f (.ref c) A outer s H E).nox (defBody st) t ∧ t { nx := fun _ H' => Q .non H', rt := Q } (start N vs) H) : Fn P w K mg base CX0 (k + 1) x ps sp := by
  obtain ⟨f, fd, F, hc, hm, hb⟩ := D.ex
  exact ⟨f, fd, okT F hc S len fun A outer s H vs Q E hr hsp => hbody f A outer s H vs Q E hr hsp, hm, F.kp, hb⟩
/-- .. made from what the head tells -/
theorem dfT_of {x : Str} {st : Stmt} {ps : List Str} {f c : Addr} {fd : FuncData} (F : FunD K x x (defArgs st) (defBody st) (defScope st) [] [] f fd) (hc : fd.code = .ref c) (hm : mg x = some (.ref f)) (hb : Binds K fd ps []) : DfT K mg x st ps c := ⟨f, fd, F, hc, hm, hb⟩
end
/-- all stays but the box and the tables of code objects -/
def OutT (b l : Addr) (H H' : Hp) : Prop := ∀ p o, p ≠ b → p ≠ l → H p = some o → (∀ ps, o ≠ .tbl ps) → H' p = some o
theorem OutT.refl {b l : Addr} {H : Hp} : OutT b l H H := fun _ _ _ _ e _ => e
theorem OutT.trans {b l : Addr} {H H1 H2 : Hp} (a : OutT b l H H1) (c : OutT b l H1 H2) : OutT b l H H2 := fun p o h1 h2 e n => c p o h1 h2 (a p o h1 h2 e n) n
theorem OutT.same {b l : Addr} {H H' : Hp} (s : Same H H') : OutT b l H H' := fun p o _ _ e _ => s p o e
theorem OutT.out {b l : Addr} {H H' : Hp} (s : Out b l H H') : OutT b l H H' := fun p o h1 h2 e _ => s p o h1 h2 e
theorem OutT.ext {b l : Addr} {H H' : Hp} (e : LamX.ExtN H H') : OutT b l H H' := fun p o _ _ h n => e p o h n
theorem OutT.lst {b l p : Addr} {H H' : Hp} {xs : List V} (o : OutT b l H H') (h1 : p ≠ b) (h2 : p ≠ l) (h : H p = some (.lst xs)) : H' p = some (.lst xs) := o p _ h1 h2 h fun _ z => by cases z
end K3

set_option Elab.async false
set_option linter.all false
set_option maxRecDepth 100000
set_option maxHeartbeats 4000000
/-! K2A: what k02's law holds; three tables of code objects -/
namespace K3
open PySem PySem.Spec PyProof.Rows L2
theorem call_lenK {X : Cx} {K : PySem.W.Frag} (e : X.K = K) : CallR X (.builtin "len") (fun xs H Q => ∃ p ys, xs = [V.ref p] ∧ (SqL K H p ys ∨ SqT K H p ys) ∧ Q (V.int (ys.length : Nat)) H) := by
  subst e
  exact call_len_seq
theorem alkT {K : PySem.W.Frag} {H : Hp} {a b : Addr} {xs ys : List V} {n : Nat} (ha : SqT K H a xs) (hb : SqT K H b ys) (hl : xs.length ≤ 10000) (p : Paired (Alk K H n) xs ys) : Alk K H (n + 1) (.ref a) (.ref b) :=
  .tup ha hb hl (Paired.length p) fun i x y hx hy => by
    obtain ⟨z, hz, R⟩ := paired_at p hx
    rw [hy] at hz
    cases hz
    exact R
theorem alkInts {K : PySem.W.Frag} {H : Hp} {a b : Addr} {ns : List Int} {n : Nat} (ha : SqT K H a (ns.map V.int)) (hb : SqT K H b (ns.map V.int)) (hl : ns.length ≤ 10000) : Alk K H (n + 1) (.ref a) (.ref b) :=
  .tup ha hb (by rw [List.length_map]; exact hl) rfl fun i x y hx hy => by
    rw [hx] at hy
    cases hy
    obtain ⟨z, _, rfl⟩ := map_at hx
    exact .int z
theorem alkL {K : PySem.W.Frag} {H : Hp} {a b : Addr} {ns : List Int} {n : Nat} (ha : SqL K H a (ns.map V.int)) (hb : SqL K H b (ns.map V.int)) (hl : ns.length ≤ 10000) : Alk K H (n + 1) (.ref a) (.ref b) :=
  .lst ha hb (by rw [List.length_map]; exact hl) rfl fun i x y hx hy => by
    rw [hx] at hy
    cases hy
    obtain ⟨z, _, rfl⟩ := map_at hx
    exact .int z
theorem alkF {K : PySem.W.Frag} {H : Hp} {a b : Addr} {F : Form} (ha : IsF K H a F) (hb : IsF K H b F) (ok : FOk F) : Alk K H 2 (.ref a) (.ref b) := by
  cases F with
  | plain vs =>
    obtain ⟨q, h1, h2⟩ := ha
    obtain ⟨q', h1', h2'⟩ := hb
    have ok : vs.length ≤ 1000 := ok
    exact alkT h1 h1' (by show 2 ≤ 10000; decide) (.cons (.str _) (.cons (alkInts h2 h2' (by omega)) .nil))
  | one n v => exact alkT (show SqT K H a _ from ha) (show SqT K H b _ from hb) (by show 3 ≤ 10000; decide) (.cons (.str _) (.cons (.int _) (.cons (.int _) .nil)))
  | codes n u c =>
    obtain ⟨q, r, h1, h2, h3⟩ := ha
    obtain ⟨q', r', h1', h2', h3'⟩ := hb
    obtain ⟨_, o2, o3, o4⟩ := ok
    exact alkT h1 h1' (by show 4 ≤ 10000; decide) (.cons (.str _) (.cons (.int _) (.cons (alkInts h2 h2' (by omega)) (.cons (alkInts h3 h3' (by omega)) .nil))))
  | near n l s c =>
    obtain ⟨r, h1, h3⟩ := ha
    obtain ⟨r', h1', h3'⟩ := hb
    obtain ⟨_, o2, o3, o4⟩ := ok
    exact alkT h1 h1' (by show 5 ≤ 10000; decide) (.cons (.str _) (.cons (.int _) (.cons (.int _) (.cons (.int _) (.cons (alkInts h3 h3' (by omega)) .nil)))))
  | steps n f l s c =>
    obtain ⟨r, h1, h3⟩ := ha
    obtain ⟨r', h1', h3'⟩ := hb
    obtain ⟨_, o2, o3, o4⟩ := ok
    exact alkT h1 h1' (by show 6 ≤ 10000; decide) (.cons (.str _) (.cons (.int _) (.cons (.int _) (.cons (.int _) (.cons (.int _) (.cons (alkInts h3 h3' (by omega)) .nil))))))
theorem _root_.LamX.ExtN.bx {H H' : Hp} (e : LamX.ExtN H H') {b l : Addr} (h : Bx H b l) : Bx H' b l := by
  obtain ⟨st, ns, h1, h2, h3⟩ := h
  exact ⟨st, ns, e.lst h1, e.lst h2, h3⟩
theorem _root_.LamX.ExtN.tup {H H' : Hp} (e : LamX.ExtN H H') {p : Addr} {xs : List V} (h : H p = some (.tup xs)) : H' p = some (.tup xs) := e _ _ h fun _ z => by cases z
theorem SameT.ext {H H' : Hp} (e : LamX.ExtN H H') : SameT H H' := fun b o h k => e b o h fun ps z => by
  rcases k with ⟨xs, k⟩ | ⟨ob, xs, k⟩
  · rw [k] at z
    cases z
  · rw [k] at z
    cases z
theorem tabs_out {T : List (Addr × Str)} {H H' : Hp} {b l : Addr} (t : LamX.Tabs T H) (B : Bx H b l) (O : Out b l H H') : LamX.Tabs T H' := tabs_to t fun p o e k => by
  obtain ⟨st, ns, h1, h2, _⟩ := B
  refine O p o (fun z => ?_) (fun z => ?_) e
  · rw [z, h1] at e
    have e2 := Option.some.inj e
    rcases k with ⟨ps, z2⟩ | ⟨c, q, z2⟩
    · rw [z2] at e2
      cases e2
    · exact code_lst (z2.symm.trans e2.symm)
  · rw [z, h2] at e
    have e2 := Option.some.inj e
    rcases k with ⟨ps, z2⟩ | ⟨c, q, z2⟩
    · rw [z2] at e2
      cases e2
    · exact code_lst (z2.symm.trans e2.symm)
theorem alk_due {K : PySem.W.Frag} {H : Hp} {t q : Addr} {z : Str} {i : Int} (h1 : H t = some (.tup [.str z, .int i])) (h2 : H q = some (.tup [.str z, .int i])) : Alk K H 1 (.ref t) (.ref q) :=
  alkT (n := 0) (SqT.of h1) (SqT.of h2) (by show 2 ≤ 10000; decide) (.cons (.str _) (.cons (.int _) .nil))
theorem told_due {K : PySem.W.Frag} {cs : Nat → Addr} {n i : Nat} {H H1 : Hp} {q : Addr} {Q : VK} {pl : Int} {d : Option Addr} (hn : 1 < n) (hi : i < 13) (hq : H q = some (.tup [.str (cnm i), .int pl]))
    (T : ∀ (v : V) (H'' : Hp), Same H H'' → (∃ m, m < n ∧ Alk K H'' m v (.ref q)) → Q v H'') (s : Same H H1)
    (hd : (i ≠ 1 ∧ i ≠ 5 ∧ i ≠ 12 ∧ d = none ∧ pl = 0) ∨ ((i = 1 ∨ i = 5 ∨ i = 12) ∧ ∃ dd fs, d = some dd ∧ H1 dd = some (.xd fs) ∧ fs.lookup ("place" : Str) = some (V.int pl))) : Told cs (.ref (cs i)) d H1 Q :=
  ⟨i, pl, hi, rfl, hd, fun H'' t s2 nt ht => T _ _ (s.trans s2) ⟨1, hn, alk_due ht ((s.trans s2) _ _ hq)⟩⟩
/-- what is told of the refusal i -/
def RefD (i : Nat) (pl : Int) (d : Option Addr) (H1 : Hp) : Prop := (i ≠ 1 ∧ i ≠ 5 ∧ i ≠ 12 ∧ d = none ∧ pl = 0) ∨ ((i = 1 ∨ i = 5 ∨ i = 12) ∧ ∃ dd fs, d = some dd ∧ H1 dd = some (.xd fs) ∧ fs.lookup ("place" : Str) = some (V.int pl))
theorem RefD.place {d : Addr} {H : Hp} {pl : Int} (h : H d = some (.xd [("place", .int pl)])) : RefD 1 pl (some d) H := .inr ⟨.inl rfl, d, _, rfl, h, rfl⟩
/-- a lambda that is refused with the refusal i -/
theorem work_ref {X : Cx} {σ : L2.St} {b' : Heap} {cs : Nat → Addr} {params : Arguments} {body : Expr} {scope : Scope} {ps : List Str} {dvs : List V} {k n i : Nat} {pl : Int} {t : XK → TE} {f c' q : Addr} {H : Hp} (LB : LamsOk X σ b') (L : LamAt X H f c' params body scope dvs) (hL : LamP X.N X.env.scope scope ps) (hB : LamB params body scope ps dvs)
    (hbody : ∀ (A : Around) (outer : List Env) (s : Shared) (H : Hp) (E : XK), Room k (A.deeper (LamX.lamEnv X scope s.heap.objs.size f c')) → PE (LamX.lamCx X A outer s H E scope f c') body (t E))
    (hn : 1 < n) (hi : i < 13) (hq : H q = some (.tup [.str (cnm i), .int pl]))
    (hT : ∀ (H' : Hp) (Q : VK) (E : XK), Same H H' → (∀ d H'', Same H' H'' → RefD i pl d H'' → E (.ref (cs i)) d H'') → t E σ H' Q) : WorkOk X.prog X.w X.K X.mg b' (k + 1) cs f H (fun H' Q' => ∀ (v : V) (H'' : Hp), Same H' H'' → (∃ m, m < n ∧ Alk X.K H'' m v (.ref q)) → Q' v H'') :=
  work_of LB L hL hB hbody fun H' Q E s' Tt hE => hT H' Q E s' fun d H'' s2 hd => hE _ _ _ (told_due hn hi (s' _ _ hq) Tt s2 hd)
/-- no parameters; one, by its default -/
theorem lamB0 {params : Arguments} {body : Expr} {scope : Scope} (h : ∀ (q : Str) (cl : List (Str × Addr)) (doc pm cv ctv : Value), bindArgs (PySem.W.kdv_fn "<lambda>" q params (.expr body) scope cl .none doc pm cv ctv) ⟨[], []⟩ = pure [] := by intros; rfl) : LamB params body scope [] [] := .inl ⟨rfl, h⟩
abbrev s_law : Stmt := top 72
abbrev N_law : List Str := ["_law_script", "_law_box", "_law_turn", "_law_values_here", "_law_handed", "_law_name", "_law_low", "_law_far", "_law_due", "_law_k"]
abbrev P_law : List Str := ["_law_script"]
theorem sc_law : FnScope N_law P_law (defScope s_law) := ⟨rfl, rfl, rfl, by decide +kernel, rfl, by decide +kernel, by decide +kernel⟩
abbrev s__law_is : Stmt := top 70
abbrev N__law_is : List Str := ["_law_box", "_law_form_here", "_law_values_here", "_law_again", "_law_found", "_law_k", "_law_far", "_law_more", "_law_works"]
abbrev P__law_is : List Str := ["_law_box", "_law_form_here", "_law_values_here"]
theorem sc__law_is : FnScope N__law_is P__law_is (defScope s__law_is) := ⟨rfl, rfl, rfl, by decide +kernel, rfl, by decide +kernel, by decide +kernel⟩
abbrev s__law_refuses : Stmt := top 71
abbrev N__law_refuses : List Str := ["_law_box", "_law_values_here", "_law_far", "_law_at", "_law_odd", "_law_cases", "_law_bad", "_law_place", "_law_kind", "_law_works", "_law_name"]
abbrev P__law_refuses : List Str := ["_law_box", "_law_values_here"]
theorem sc__law_refuses : FnScope N__law_refuses P__law_refuses (defScope s__law_refuses) := ⟨rfl, rfl, rfl, by decide +kernel, rfl, by decide +kernel, by decide +kernel⟩
/-- the tables that the lambdas go through -/
def qLam (x : Str) (st : Stmt) : Str := (envOfC x (defScope st) 0 0 .none).qual ++ "<lambda>"
def TL3 (P1 P2 P3 : Addr) : List (Addr × Str) := [(P1, qLam "law" s_law), (P2, qLam "_law_is" s__law_is), (P3, qLam "_law_refuses" s__law_refuses)]
section
variable {P1 P2 P3 : Addr}
theorem tl_m1 : (P1, qLam "law" s_law) ∈ TL3 P1 P2 P3 := List.mem_cons_self
theorem tl_m2 : (P2, qLam "_law_is" s__law_is) ∈ TL3 P1 P2 P3 := List.mem_cons_of_mem _ List.mem_cons_self
theorem tl_m3 : (P3, qLam "_law_refuses" s__law_refuses) ∈ TL3 P1 P2 P3 := List.mem_cons_of_mem _ (List.mem_cons_of_mem _ List.mem_cons_self)
theorem tl_in {p : Addr × Str} (h : p ∈ TL3 P1 P2 P3) : p = (P1, qLam "law" s_law) ∨ p = (P2, qLam "_law_is" s__law_is) ∨ p = (P3, qLam "_law_refuses" s__law_refuses) := by
  rcases List.mem_cons.mp h with h | h
  · exact .inl h
  · rcases List.mem_cons.mp h with h | h
    · exact .inr (.inl h)
    · rcases List.mem_cons.mp h with h | h
      · exact .inr (.inr h)
      · cases h
theorem tl_u1 (n12 : P1 ≠ P2) (n13 : P1 ≠ P3) : ∀ p ∈ TL3 P1 P2 P3, p.1 = P1 → p.2 = qLam "law" s_law := fun p hp e => by
  rcases tl_in hp with rfl | rfl | rfl
  · rfl
  · exact absurd e.symm n12
  · exact absurd e.symm n13
theorem tl_u2 (n12 : P1 ≠ P2) (n23 : P2 ≠ P3) : ∀ p ∈ TL3 P1 P2 P3, p.1 = P2 → p.2 = qLam "_law_is" s__law_is := fun p hp e => by
  rcases tl_in hp with rfl | rfl | rfl
  · exact absurd e n12
  · rfl
  · exact absurd e.symm n23
theorem tl_u3 (n13 : P1 ≠ P3) (n23 : P2 ≠ P3) : ∀ p ∈ TL3 P1 P2 P3, p.1 = P3 → p.2 = qLam "_law_refuses" s__law_refuses := fun p hp e => by
  rcases tl_in hp with rfl | rfl | rfl
  · exact absurd e n13
  · exact absurd e n23
  · rfl
end
/-- a box, a list beside it, the tables; what was ahead stays -/
structure WB (H0 H : Hp) (T : List (Addr × Str)) (b l vp : Addr) (ns : List Int) : Prop where
  bx : Bx H b l
  out : OutT b l H0 H
  vb : vp ≠ b
  vl : vp ≠ l
  at_v : H vp = some (.lst (ns.map V.int))
  tabs : LamX.Tabs T H
theorem WB.same {H0 H H' : Hp} {T : List (Addr × Str)} {b l vp : Addr} {ns : List Int} (h : WB H0 H T b l vp ns) (s : Same H H') : WB H0 H' T b l vp ns := ⟨h.bx.same s, h.out.trans (.same s), h.vb, h.vl, s _ _ h.at_v, tabs_same h.tabs s⟩
theorem WB.go {H0 H H' : Hp} {T : List (Addr × Str)} {b l vp : Addr} {ns : List Int} (h : WB H0 H T b l vp ns) (B : Bx H' b l) (O : Out b l H H') : WB H0 H' T b l vp ns := ⟨B, h.out.trans (.out O), h.vb, h.vl, O.at h.vb h.vl h.at_v, tabs_out h.tabs h.bx O⟩
theorem WB.goT {H0 H H' : Hp} {T : List (Addr × Str)} {b l vp : Addr} {ns : List Int} (h : WB H0 H T b l vp ns) (B : Bx H' b l) (O : OutT b l H H') (t : LamX.Tabs T H') : WB H0 H' T b l vp ns := ⟨B, h.out.trans O, h.vb, h.vl, O.lst h.vb h.vl h.at_v, t⟩
theorem WB.ext {H0 H H' : Hp} {T : List (Addr × Str)} {b l vp : Addr} {ns : List Int} (h : WB H0 H T b l vp ns) (e : LamX.ExtN H H') (t : LamX.Tabs T H') : WB H0 H' T b l vp ns := ⟨e.bx h.bx, h.out.trans (.ext e), h.vb, h.vl, e.lst h.at_v, t⟩
theorem WB.re {H0 H : Hp} {T : List (Addr × Str)} {b l vp : Addr} {ns : List Int} (h : WB H0 H T b l vp ns) : WB H H T b l vp ns := ⟨h.bx, .refl, h.vb, h.vl, h.at_v, h.tabs⟩
/-- another list is changed -/
theorem WB.putS {H0 H : Hp} {T : List (Addr × Str)} {b l vp p : Addr} {ns : List Int} {xs ys : List V} (h : WB H0 H T b l vp ns) (e : H p = some (.lst xs)) (pb : p ≠ b) (pl : p ≠ l) (pv : p ≠ vp) : WB (L2.upd H p (.lst ys)) (L2.upd H p (.lst ys)) T b l vp ns := by
  obtain ⟨st, zs, h1, h2, h3⟩ := h.bx
  exact ⟨⟨st, zs, (upd_ne pb.symm).trans h1, (upd_ne pl.symm).trans h2, h3⟩, .refl, h.vb, h.vl, (upd_ne pv.symm).trans h.at_v, tabs_put h.tabs e (fun _ z => by cases z) fun _ _ => code_lst⟩
/-- .. another list in its place -/
theorem WB.other {H0 H : Hp} {T : List (Addr × Str)} {b l vp p : Addr} {ns ms : List Int} (h : WB H0 H T b l vp ns) (e : H p = some (.lst (ms.map V.int))) (pb : p ≠ b) (pl : p ≠ l) : WB H H T b l p ms := ⟨h.bx, .refl, pb, pl, e, h.tabs⟩
theorem OutT.sameT {b l : Addr} {H H' : Hp} (B : Bx H b l) (O : OutT b l H H') : SameT H H' := fun c o h k => by
  obtain ⟨st, ns, h1, h2, _⟩ := B
  refine O c o (fun z => ?_) (fun z => ?_) h fun ps z => ?_
  · rw [z, h1] at h
    have h := Option.some.inj h
    rcases k with ⟨xs, k⟩ | ⟨ob, xs, k⟩ <;> rw [k] at h <;> cases h
  · rw [z, h2] at h
    have h := Option.some.inj h
    rcases k with ⟨xs, k⟩ | ⟨ob, xs, k⟩ <;> rw [k] at h <;> cases h
  · rcases k with ⟨xs, k⟩ | ⟨ob, xs, k⟩ <;> rw [k] at z <;> cases z
end K3

set_option Elab.async false
set_option linter.all false
set_option maxRecDepth 100000
set_option maxHeartbeats 4000000
/-! K2I: a form is what it is to be -/
namespace K3
open PySem PySem.Spec PyProof.Rows L2
section
variable {P : Program} {w : World} {K : PySem.W.Frag} {mg : Str → Option Value} {base : Heap}
def spIs (K : PySem.W.Frag) (T : List (Addr × Str)) : Sp := fun vs H Q _ => ∃ (b l a vp : Addr) (F : Form) (ns : List Int), vs = [.ref b, .ref a, .ref vp] ∧ WB H H T b l vp ns ∧ IsF K H a F ∧ FOk F ∧ readF F = ns ∧ ns.length ≤ 32 ∧ ∀ H', WB H H' T b l vp ns → Q (.bl true) H'
theorem ok_is {cs : Nat → Addr} {P1 P2 P3 c : Addr} (n12 : P1 ≠ P2) (n23 : P2 ≠ P3) (T : Txt mg) (D : DfT K mg "_law_is" s__law_is P__law_is c) (TB : LamX.TabB base mg c P2)
    (G_all : ∀ b, Fn P w K mg b CX0 10 "_law_all" P__law_all (spAll P w K mg 7 3 cs b))
    (G_values_of : Fn P w K mg base CX0 6 "values_of" P_values_of (spVof K)) (G_value_at : Fn P w K mg base CX0 7 "value_at" P_value_at (spVat K)) (X_value_at : ∀ b, Fn P w K mg b (L2.CX P w) 7 "value_at" P_value_at (spVatX K (cs 0)))
    (G_room : Fn P w K mg base CX0 1 "room" P_room (spRoom K)) (G__law_room : Fn P w K mg base CX0 4 "_law_room" P__law_room (spLroom K 3)) (G__law_take : Fn P w K mg base CX0 1 "_law_take" P__law_take spTake)
    (G__law_alike : Fn P w K mg base CX0 4 "_law_alike" P__law_alike (spAlike K 3)) : Fn P w K mg base CX0 11 "_law_is" P__law_is (spIs K (TL3 P1 P2 P3)) := by
  refine D.ok sc__law_is (fun vs H Q E h => ?_) (fun f A outer s H vs Q E hr h => ?_)
  · obtain ⟨b, l, a, vp, F, ns, rfl, _⟩ := h
    rfl
  · obtain ⟨b, l, a, vp, F, ns, rfl, w0, hF, ok, hR, hl, k⟩ := h
    have nd := sc__law_is.nd
    refine ⟨_, (pss_cons (ps_for PassesOwn.never rfl (pi_range1 (by rfl) T.b_range (pa_cons pe_int pa_nil)) (pg_name (i := 3) nd rfl (by first | exact Or.inl rfl | exact Or.inr rfl))
  (pss_cons (ps_set (i := 4) nd rfl (by first | exact Or.inl rfl | exact Or.inr rfl) (pe_c G_values_of (hr.mono (by decide)) pass0 (pa_cons (pv 1) pa_nil)))
  (pss_cons (ps_if (PW.pt (pw_or (pt_not (pt_val (pe_c G__law_alike (hr.mono (by decide)) pass0 (pa_cons (pv 4) (pa_cons (pv 2) pa_nil))))) (pw_or1 (pt_not (pt_val (pe_c G__law_alike (hr.mono (by decide)) pass0 (pa_cons (pe_c G_room (hr.mono (by decide)) pass0 (pa_cons (pv 1) pa_nil)) (pa_cons (pe_c G__law_room (hr.mono (by decide)) pass0 (pa_cons (pv 1) pa_nil)) pa_nil))))))))
  (pss_one (ps_ret pe_bl))
  pss_nil)
  (pss_one (ps_expr (pe_bm PySem.F.plainAttrs_list PySem.F.slot_list_append PySem.F.type_list_append mt_append (pv 4) (pa_cons pe_int pa_nil)))))))
  (pss_cons (ps_if (pt_cmpR (op_neIs hr.units) (pe_lc (own := [("_law_k", 5)]) (g := gName 5) (by rfl) nd  (pi_range1 (by rfl) T.b_range (pa_cons (pe_callB call_len_seq (by rfl) T.b_len (by decide +kernel) (pa_cons (pv 2) pa_nil)) pa_nil)) (blkOk_by (own := [("_law_k", 5)]) (N := N__law_is) (sc := defScope s__law_is) (by decide +kernel)) (fun _ _ _ _ _ => pg_name (i := 5) nd rfl (Or.inl rfl)) (fun _ _ _ _ _ => pts_one (pt_not (pt_val (pe_c G__law_alike (hr.mono (by decide)) pass0 (pa_cons (pe_c G_value_at (hr.mono (by decide)) pass0 (pa_cons (pv 1) (pa_cons (pv 5) pa_nil))) (pa_cons (pe_ix (ix_listK (K := K) rfl) (pv 2) (pv 5) (fun _ _ => rfl)) pa_nil)))))) (fun _ _ _ _ _ => (pv 5))) (pe_lst pa_nil) (nomark _))
  (pss_one (ps_ret pe_bl))
  pss_nil)
  (pss_cons (ps_asg (pe_tup (pa_cons (pe_c G__law_take (hr.mono (by decide)) pass0 (pa_cons (pv 0) (pa_cons (pe_op op_pow pe_int pe_int) pa_nil))) (pa_cons (pe_c G__law_take (hr.mono (by decide)) pass0 (pa_cons (pv 0) (pa_cons pe_int pa_nil))) pa_nil))) (pg_tup (by rfl) (pgs_cons (pg_name (i := 6) nd rfl (by first | exact Or.inl rfl | exact Or.inr rfl)) (pgs_cons (pg_name (i := 7) nd rfl (by first | exact Or.inl rfl | exact Or.inr rfl)) pgs_nil))))
  (pss_cons (ps_set (i := 8) nd rfl (by first | exact Or.inl rfl | exact Or.inr rfl) (pe_lst (pa_cons (pe_lam0 (c := c) (P := P2) (T := TL3 P1 P2 P3) TB rfl tl_m2 (tl_u2 n12 n23) (lamP_by (show lamPB N__law_is (defScope s__law_is) _ [] = true by decide +kernel)).free rfl) (pa_cons (pe_lam1 (c := c) (P := P2) (T := TL3 P1 P2 P3) (i := 0) TB rfl tl_m2 (tl_u2 n12 n23) (lamP_by (show lamPB N__law_is (defScope s__law_is) _ ["_law_a"] = true by decide +kernel)).free rfl rfl pe_int) pa_nil))))
  (pss_cons (ps_set (i := 8) nd rfl (by first | exact Or.inl rfl | exact Or.inr rfl) (pe_op op_cat (pv 8) (pe_lst (pa_cons (pe_lam1 (c := c) (P := P2) (T := TL3 P1 P2 P3) (i := 0) TB rfl tl_m2 (tl_u2 n12 n23) (lamP_by (show lamPB N__law_is (defScope s__law_is) _ ["_law_b"] = true by decide +kernel)).free rfl rfl pe_int) (pa_cons (pe_lam1 (c := c) (P := P2) (T := TL3 P1 P2 P3) (i := 0) TB rfl tl_m2 (tl_u2 n12 n23) (lamP_by (show lamPB N__law_is (defScope s__law_is) _ ["_law_c"] = true by decide +kernel)).free rfl rfl pe_int) pa_nil)))))
  (pss_one (ps_ret (pe_callL (fun b => G_all b) hr (fun _ => rfl) (pa_cons (pv 8) (pa_cons (pe_tup (pa_cons pe_str (pa_cons pe_int pa_nil))) pa_nil)))))))))), ?_⟩
    refine ⟨_, rfl, by decide, by decide, for_it (walk_range (lo := 0)) (fun i σ H' => (∃ v3 v4, σ = [some (.ref b), some (.ref a), some (.ref vp), v3, v4, none, none, none, none]) ∧ Same H H') ⟨⟨none, none, rfl⟩, Same.refl H⟩ (fun _ _ _ _ _ => True.intro) ?_ ?_⟩
    · rintro i x σ H1 H1' hi ⟨⟨v3, v4, rfl⟩, s1⟩ ⟨rfl, rfl⟩
      refine ⟨_, rfl, a, F, rfl, hF.same s1, ok, fun H2 p s2 np hp => ?_⟩
      rw [hR] at hp
      have s12 := s1.trans s2
      refine ⟨_, rfl, _, rfl, .ref p, .ref vp, rfl, 1, by decide, alkL (SqL.of hp) (SqL.of (s12 _ _ w0.at_v)) (by omega), _, rfl, ?_⟩
      refine ite2 (fun cc => Bool.noConfusion (show false = true from cc)) (fun _ => ?_)
      refine ⟨_, rfl, a, F, rfl, hF.same s12, ?_⟩
      refine ⟨_, rfl, .ref a, _, 2, rfl, by decide, roomF (hF.same s12) ok, fun H3 s3 => ?_⟩
      refine ⟨_, _, rfl, 0, by decide, .int _, _, rfl, ?_⟩
      refine ite2 (fun cc => Bool.noConfusion (show false = true from cc)) (fun _ => ?_)
      refine ⟨_, rfl, .inl ⟨rfl, _, SqL.of (s3 _ _ hp)⟩, p, _, _, rfl, rfl, s3 _ _ hp, by rw [List.length_map, sizeLine_eq]; omega, ?_⟩
      exact ⟨⟨_, _, rfl⟩, Same.put (s12.trans s3) (s1.free np)⟩
    · rintro σ H1 ⟨⟨v3, v4, rfl⟩, s1⟩
      have w1 := w0.same s1
      have hF1 := hF.same s1
      refine ⟨_, rfl, vp, _, rfl, .inl (SqL.of w1.at_v), _, rfl, ?_⟩
      rw [List.length_map]
      refine ⟨by omega, by omega, fun D0 nD => ?_⟩
      refine lc_if (walk_range (lo := 0)) (fun m H' => Same H1 H' ∧ H' D0 = some (.lst [])) ⟨Same.upd nD, upd_same⟩ (fun _ _ _ _ => True.intro) ?_ ?_
      · rintro m x H2 H2' hm ⟨s2, hD⟩ ⟨rfl, rfl⟩
        rw [Int.toNat_natCast] at hm
        have e0 : (0 : Int) + (m : Int) = (m : Int) := by omega
        obtain ⟨v, hv⟩ : ∃ v, ns[m]? = some v := ⟨_, List.getElem?_eq_getElem hm⟩
        refine ⟨_, rfl, _, rfl, a, F, m, v, (show [V.ref a, V.int (0 + (m : Int))] = [V.ref a, V.int (m : Int)] by rw [e0]), hF1.same s2, ok, by rw [hR]; exact hv, fun H3 s3 => ?_⟩
        refine ⟨_, rfl, _, rfl, vp, _, _, .int v, rfl, rfl, SqL.of ((s2.trans s3) _ _ w1.at_v), at_of (j := m) (by omega) (by rw [List.getElem?_map, hv]; rfl), ?_⟩
        refine ⟨_, _, rfl, 0, by decide, .int _, _, rfl, ?_⟩
        refine ite2 (fun cc => Bool.noConfusion (show false = true from cc)) (fun _ => ?_)
        exact ⟨s2.trans s3, s3 _ _ hD⟩
      rintro H2 ⟨s2, hD⟩
      refine ⟨Nat.zero_le _, fun q nq => ?_⟩
      have sq := Same.upd (o := .lst []) nq
      refine ⟨D0, q, [], [], rfl, rfl, SqL.of (sq _ _ hD), SqL.of upd_same, _, rfl, ?_⟩
      refine ite2 (fun cc => ?_) (fun _ => ?_)
      · have cc' : (!decide (([] : List Int) = [])) = true := cc
        cases cc'
      have w3 := (w1.same s2).same sq
      have hF3 := (hF1.same s2).same sq
      suffices hh : ∀ H3, (WB H H3 (TL3 P1 P2 P3) b l vp ns ∧ IsF K H3 a F) → _ from hh _ ⟨w3, hF3⟩
      clear w3 hF3
      rintro H3 ⟨w3, hF3⟩
      refine ⟨_, rfl, _, _, rfl, rfl, ⟨by decide, by decide, by decide⟩, b, l, _, rfl, w3.bx, by decide, by decide, fun H4 far B4 O4 f0 f1 => ?_⟩
      have w4 := w3.go B4 O4
      have hF4 := hF3.keep (.out w3.bx O4)
      have f1' : far < 1000000000000000000 := f1
      refine ⟨_, rfl, b, l, 40, rfl, w4.bx, by decide, by decide, fun H5 more B5 O5 m0 m1 => ?_⟩
      have w5 := w4.go B5 O5
      have hF5 := hF4.keep (.out w4.bx O5)
      refine ⟨(by show 2 ≤ sizeLine; decide), fun q nq => ?_⟩
      have w6 := w5.same (Same.upd (o := .tup [.int far, .int more]) nq)
      have hF6 := hF5.same (Same.upd (o := .tup [.int far, .int more]) nq)
      refine ⟨q, _, rfl, SqT.of upd_same, rfl, _, _, rfl, _, _, rfl, rfl, ?_⟩
      suffices hh : ∀ H6, (WB H H6 (TL3 P1 P2 P3) b l vp ns ∧ IsF K H6 a F) → _ from hh _ ⟨w6, hF6⟩
      clear w6 hF6
      rintro H6 ⟨w6, hF6⟩
      -- the lambdas
      refine ⟨w6.tabs, fun f1 d1 Ha e1 t1 M1 => ?_⟩
      refine ⟨t1, fun f2 d2 Hb e2 t2 M2 => ?_⟩
      refine ⟨(by show 2 ≤ sizeLine; decide), fun wp nwp => ?_⟩
      have sw := Same.upd (H := Hb) (o := .lst [.ref f1, .ref f2]) nwp
      refine ⟨_, rfl, tabs_same t2 sw, fun f3 d3 Hc e3 t3 M3 => ?_⟩
      refine ⟨t3, fun f4 d4 Hd e4 t4 M4 => ?_⟩
      refine ⟨(by show 2 ≤ sizeLine; decide), fun xp nxp => ?_⟩
      have sx := Same.upd (H := Hd) (o := .lst [.ref f3, .ref f4]) nxp
      have eb := e1.trans e2
      have ec := (LamX.ExtN.of sw).trans e3
      have ed := ec.trans e4
      have hwp : (upd Hd xp (.lst [.ref f3, .ref f4])) wp = some (.lst [.ref f1, .ref f2]) := sx _ _ ((e3.trans e4).lst upd_same)
      refine ⟨wp, xp, _, _, rfl, rfl, hwp, upd_same, (by show 2 + 2 ≤ sizeLine; decide), fun yp nyp => ?_⟩
      have sy := Same.upd (o := .lst ([.ref f1, .ref f2] ++ [.ref f3, .ref f4])) nyp
      refine ⟨_, rfl, (by show 2 ≤ sizeLine; decide), fun q nq => fun b' LB => ⟨yp, q, [f1, f2, f3, f4], rfl, SqL.of (Same.upd nq _ _ upd_same), (by show 4 ≤ 1000; decide), fun f hf => ?_, fun H7 s7 => ?_⟩⟩
      · have sq := Same.upd (o := .tup [.str (cnm 0), .int 0]) nq
        have due : (L2.upd (L2.upd (L2.upd Hd xp (.lst [.ref f3, .ref f4])) yp (.lst ([.ref f1, .ref f2] ++ [.ref f3, .ref f4]))) q (.tup [.str (cnm 0), .int 0])) q = some (.tup [.str (cnm 0), .int 0]) := upd_same
        have sxy := (sx.trans sy).trans sq
        have eF : SameT H6 (L2.upd (L2.upd (L2.upd Hd xp (.lst [.ref f3, .ref f4])) yp (.lst ([.ref f1, .ref f2] ++ [.ref f3, .ref f4]))) q (.tup [.str (cnm 0), .int 0])) := (SameT.ext (eb.trans ed)).trans (.of sxy)
        have hFq := hF6.keep eF
        have hvq := sxy _ _ ((eb.trans ed).lst w6.at_v)
        have le : (readF F).length ≤ 1000 := by rw [hR]; omega
        have le2 : (readF F).length = ns.length := by rw [hR]
        have hf' : f = f1 ∨ f = f2 ∨ f = f3 ∨ f = f4 := by simpa using hf
        rcases hf' with rfl | rfl | rfl | rfl
        · exact work_ref (k := 7) (i := 0) (pl := 0) (n := 3) (t := fun E => tCallS (spVatX K (cs 0)) (fun _ => E) (tCons (tVar 1) (tCons _ tNil))) (ps := []) LB (((M1.extN e2).extN ed).same sxy) (lamP_by (show lamPB N__law_is (defScope s__law_is) _ _ = true by decide +kernel)) (.inl ⟨rfl, fun _ _ _ _ _ _ => rfl⟩) (fun A outer s H E hr2 => pe_cS (E := fun _ => E) (X_value_at _) (hr2.mono (by decide)) (fun σ => passAt (takes_of rfl rfl rfl rfl) σ) (pa_cons (pv 1) (pa_cons (pe_op op_sub (pe_un un_neg pe_int) (pv 7)) pa_nil))) (by decide) (by decide) due
            (fun H' Q E s' hE => ⟨_, rfl, _, rfl, _, rfl, _, _, rfl, rfl, a, F, -1 - more, rfl, hFq.same s', ok, by omega, le, by omega, fun H'' s'' => hE _ _ s'' (.inl ⟨by decide, by decide, by decide, rfl, rfl⟩)⟩)
        · exact work_ref (k := 7) (i := 0) (pl := 0) (n := 3) (t := fun E => tCallS (spVatX K (cs 0)) (fun _ => E) (tCons (tVar 1) (tCons _ tNil))) (ps := ["_law_a"]) LB ((M2.extN ed).same sxy) (lamP_by (show lamPB N__law_is (defScope s__law_is) _ _ = true by decide +kernel)) (.inr ⟨by simp, rfl, fun _ _ _ _ _ _ _ its hl => match its, hl with | [_], _ => ⟨_, rfl, rfl⟩⟩) (fun A outer s H E hr2 => pe_cS (E := fun _ => E) (X_value_at _) (hr2.mono (by decide)) (fun σ => passAt (takes_of rfl rfl rfl rfl) σ) (pa_cons (pv 1) (pa_cons (pe_op op_add (pe_callB (call_lenK (K := K) rfl) (by rfl) T.b_len (by decide +kernel) (pa_cons (pv 2) pa_nil)) (pv 7)) pa_nil))) (by decide) (by decide) due
            (fun H' Q E s' hE => ⟨_, rfl, _, rfl, vp, _, rfl, .inl (SqL.of (s' _ _ hvq)), _, rfl, _, _, rfl, rfl, a, F, (ns.map V.int).length + more, rfl, hFq.same s', ok, by rw [List.length_map]; omega, le, by rw [List.length_map]; omega, fun H'' s'' => hE _ _ s'' (.inl ⟨by decide, by decide, by decide, rfl, rfl⟩)⟩)
        · exact work_ref (k := 7) (i := 0) (pl := 0) (n := 3) (t := fun E => tCallS (spVatX K (cs 0)) (fun _ => E) (tCons (tVar 1) (tCons _ tNil))) (ps := ["_law_b"]) LB ((M3.extN e4).same sxy) (lamP_by (show lamPB N__law_is (defScope s__law_is) _ _ = true by decide +kernel)) (.inr ⟨by simp, rfl, fun _ _ _ _ _ _ _ its hl => match its, hl with | [_], _ => ⟨_, rfl, rfl⟩⟩) (fun A outer s H E hr2 => pe_cS (E := fun _ => E) (X_value_at _) (hr2.mono (by decide)) (fun σ => passAt (takes_of rfl rfl rfl rfl) σ) (pa_cons (pv 1) (pa_cons (pe_op op_sub (pe_un un_neg pe_int) (pv 6)) pa_nil))) (by decide) (by decide) due
            (fun H' Q E s' hE => ⟨_, rfl, _, rfl, _, rfl, _, _, rfl, rfl, a, F, -1 - far, rfl, hFq.same s', ok, by omega, le, by omega, fun H'' s'' => hE _ _ s'' (.inl ⟨by decide, by decide, by decide, rfl, rfl⟩)⟩)
        · exact work_ref (k := 7) (i := 0) (pl := 0) (n := 3) (t := fun E => tCallS (spVatX K (cs 0)) (fun _ => E) (tCons (tVar 1) (tCons _ tNil))) (ps := ["_law_c"]) LB (M4.same sxy) (lamP_by (show lamPB N__law_is (defScope s__law_is) _ _ = true by decide +kernel)) (.inr ⟨by simp, rfl, fun _ _ _ _ _ _ _ its hl => match its, hl with | [_], _ => ⟨_, rfl, rfl⟩⟩) (fun A outer s H E hr2 => pe_cS (E := fun _ => E) (X_value_at _) (hr2.mono (by decide)) (fun σ => passAt (takes_of rfl rfl rfl rfl) σ) (pa_cons (pv 1) (pa_cons (pe_op op_add (pe_callB (call_lenK (K := K) rfl) (by rfl) T.b_len (by decide +kernel) (pa_cons (pv 2) pa_nil)) (pv 6)) pa_nil))) (by decide) (by decide) due
            (fun H' Q E s' hE => ⟨_, rfl, _, rfl, vp, _, rfl, .inl (SqL.of (s' _ _ hvq)), _, rfl, _, _, rfl, rfl, a, F, (ns.map V.int).length + far, rfl, hFq.same s', ok, by rw [List.length_map]; omega, le, by rw [List.length_map]; omega, fun H'' s'' => hE _ _ s'' (.inl ⟨by decide, by decide, by decide, rfl, rfl⟩)⟩)
      · exact k _ (((((((((w6.ext e1 t1).ext e2 t2).same sw).ext e3 t3).ext e4 t4).same sx).same sy).same (Same.upd nq)).same s7)
end
end K3

set_option Elab.async false
set_option linter.all false
set_option maxRecDepth 100000
set_option maxHeartbeats 4000000
/-! K2R: what are no values, what is no form -/
namespace K3
open PySem PySem.Spec PyProof.Rows L2
def cutW (ns : List Int) (lo hi : Option Int) : List Int := (ns.drop (HT.sIx ns.length 0 lo)).take (HT.sIx ns.length ns.length hi - HT.sIx ns.length 0 lo)
theorem cutW_ok (ns : List Int) (lo hi : Option Int) : cutV (ns.map V.int) lo hi = (cutW ns lo hi).map V.int := by
  unfold cutV cutW
  rw [List.length_map, ← List.map_drop, ← List.map_take]
theorem cutW_le (ns : List Int) (lo hi : Option Int) : (cutW ns lo hi).length ≤ ns.length := by
  unfold cutW
  rw [List.length_take, List.length_drop]
  omega
theorem cutW_take (ns : List Int) (m : Nat) : cutW ns none (some (m : Int)) = ns.take m := by
  unfold cutW
  rw [HT.sIx_none, HT.sIx_nat, Nat.sub_zero, List.drop_zero]
  by_cases c : m ≤ ns.length
  · rw [Nat.min_eq_left c]
  · rw [Nat.min_eq_right (by omega), List.take_length, List.take_of_length_le (by omega)]
theorem bad_put {ns rest : List Int} {i : Nat} {x : Int} (G : Good ns) (hi : i ≤ ns.length) (h31 : i ≤ 31) (hx : x < -9999 ∨ 9999 < x) : FirstBadV (ns.take i ++ x :: rest) i := by
  have hl : (ns.take i).length = i := by rw [List.length_take]; omega
  refine .inr ⟨⟨x, by rw [List.getElem?_append_right (by omega), hl, Nat.sub_self]; rfl, fun ⟨_, a, b⟩ => by omega⟩, fun j m hj e => ?_⟩
  rw [List.getElem?_append_left (by omega), List.getElem?_take_of_lt hj] at e
  have := G.inn m (List.mem_of_getElem? e)
  exact ⟨by omega, this.1, this.2⟩
theorem bad_many {m : Nat} (h : 33 ≤ m) : FirstBadV (List.replicate m (7 : Int)) 32 := by
  refine .inr ⟨⟨7, by rw [List.getElem?_replicate_of_lt (by omega)], fun z => absurd z.1 (by decide)⟩, fun j n hj e => ?_⟩
  have e2 := List.mem_of_getElem? e
  have e3 := (List.mem_replicate.mp e2).2
  subst e3
  exact ⟨hj, by decide, by decide⟩
theorem rep7 : ∀ k : Nat, (List.replicate k [V.int 7]).flatten = (List.replicate k (7 : Int)).map V.int
  | 0 => rfl
  | k + 1 => by
    rw [List.replicate_succ, List.flatten_cons, rep7 k, List.replicate_succ]
    rfl
theorem tup_apart {H : Hp} {b l cp : Addr} {xs : List V} (B : Bx H b l) (h : H cp = some (.tup xs)) : cp ≠ b ∧ cp ≠ l := by
  obtain ⟨st, ns, h1, h2, _⟩ := B
  refine ⟨fun z => ?_, fun z => ?_⟩
  · rw [z, h1] at h
    cases h
  · rw [z, h2] at h
    cases h
/-- a case: what are no values, and the place of the first -/
def CaseAt (H : Hp) (b l : Addr) (v : V) : Prop := ∃ (u bp : Addr) (bads : List Int) (i : Nat), v = .ref u ∧ H u = some (.tup [.ref bp, .int (i : Int)]) ∧ H bp = some (.lst (bads.map V.int)) ∧ bp ≠ b ∧ bp ≠ l ∧ bads.length ≤ 1000 ∧ FirstBadV bads i
theorem CaseAt.same {H H' : Hp} {b l : Addr} {v : V} (h : CaseAt H b l v) (s : Same H H') : CaseAt H' b l v := by
  obtain ⟨u, bp, bads, i, e, h1, h2, r⟩ := h
  exact ⟨u, bp, bads, i, e, s _ _ h1, s _ _ h2, r⟩
theorem CaseAt.out {H H' : Hp} {b l : Addr} {v : V} (h : CaseAt H b l v) (B : Bx H b l) (O : Out b l H H') : CaseAt H' b l v := by
  obtain ⟨u, bp, bads, i, e, h1, h2, nb, nl, r⟩ := h
  exact ⟨u, bp, bads, i, e, O.at (tup_apart B h1).1 (tup_apart B h1).2 h1, O.at nb nl h2, nb, nl, r⟩
/-- the names at a drawn place -/
theorem pickN {t : Int} (h0 : 0 ≤ t) (h1 : t < 5) : ∃ j, j < 5 ∧ atI [V.str "plain", V.str "one", V.str "codes", V.str "near", V.str "steps"] t = some (.str (nmOf j)) := by
  obtain ⟨j, rfl⟩ := Int.eq_ofNat_of_zero_le h0
  refine ⟨j, by omega, at_of (z := (j : Int)) (j := j) rfl ?_⟩
  have hj : j < 5 := by omega
  match j, hj with
  | 0, _ => rfl
  | 1, _ => rfl
  | 2, _ => rfl
  | 3, _ => rfl
  | 4, _ => rfl
  | n + 5, h => omega
def oddN : List Str := ["", "Plain", "runs", "codes "]
theorem pickO {t : Int} (h0 : 0 ≤ t) (h1 : t < 4) : ∃ z, z ∈ oddN ∧ atI [V.str "", V.str "Plain", V.str "runs", V.str "codes "] t = some (.str z) := by
  obtain ⟨j, rfl⟩ := Int.eq_ofNat_of_zero_le h0
  have hj : j < 4 := by omega
  match j, hj with
  | 0, _ => exact ⟨"", by simp [oddN], at_of (j := 0) rfl rfl⟩
  | 1, _ => exact ⟨"Plain", by simp [oddN], at_of (j := 1) rfl rfl⟩
  | 2, _ => exact ⟨"runs", by simp [oddN], at_of (j := 2) rfl rfl⟩
  | 3, _ => exact ⟨"codes ", by simp [oddN], at_of (j := 3) rfl rfl⟩
  | n + 4, h => omega
section
variable {P : Program} {w : World} {K : PySem.W.Frag} {mg : Str → Option Value} {base : Heap}
def spRef (K : PySem.W.Frag) (T : List (Addr × Str)) : Sp := fun vs H Q _ => ∃ (b l vp : Addr) (ns : List Int), vs = [.ref b, .ref vp] ∧ WB H H T b l vp ns ∧ Good ns ∧ ∀ H', WB H H' T b l vp ns → Q (.bl true) H'
theorem ok_refuses {cs : Nat → Addr} {P1 P2 P3 c dM : Addr} (n13 : P1 ≠ P3) (n23 : P2 ≠ P3) (hN : ∀ z ∈ oddN, PySem.W.nsIn K dM z = some none) (T : Txt mg) (D : DfT K mg "_law_refuses" s__law_refuses P__law_refuses c) (TB : LamX.TabB base mg c P3)
    (G_all : ∀ b, Fn P w K mg b CX0 10 "_law_all" P__law_all (spAll P w K mg 7 3 cs b))
    (X_laidV : ∀ b, Fn P w K mg b (L2.CX P w) 4 "laid" P_laid (spLaidV K (cs 1))) (X_laidN : ∀ b, Fn P w K mg b (L2.CX P w) 1 "laid" P_laid (spLaidN K dM (cs 2)))
    (X_least : ∀ b, Fn P w K mg b (L2.CX P w) 4 "least_form" P_least_form (spChVX K (cs 1))) (X_cut : ∀ b, Fn P w K mg b (L2.CX P w) 4 "cut" P_cut (spChVX K (cs 1))) (X_prices : ∀ b, Fn P w K mg b (L2.CX P w) 4 "prices" P_prices (spChVX K (cs 1))) (X_bound : ∀ b, Fn P w K mg b (L2.CX P w) 4 "bound" P_bound (spBdX K (cs 1)))
    (G__law_take : Fn P w K mg base CX0 1 "_law_take" P__law_take spTake) : Fn P w K mg base CX0 11 "_law_refuses" P__law_refuses (spRef K (TL3 P1 P2 P3)) := by
  refine D.ok sc__law_refuses (fun vs H Q E h => ?_) (fun f A outer s H vs Q E hr h => ?_)
  · obtain ⟨b, l, vp, ns, rfl, _⟩ := h
    rfl
  · obtain ⟨b, l, vp, ns, rfl, w0, G, k⟩ := h
    have nd := sc__law_refuses.nd
    refine ⟨_, (pss_cons (ps_set (i := 2) nd rfl (by first | exact Or.inl rfl | exact Or.inr rfl) (pe_c G__law_take (hr.mono (by decide)) pass0 (pa_cons (pv 0) (pa_cons (pe_op op_pow pe_int pe_int) pa_nil))))
  (pss_cons (ps_set (i := 3) nd rfl (by first | exact Or.inl rfl | exact Or.inr rfl) (pe_c G__law_take (hr.mono (by decide)) pass0 (pa_cons (pv 0) (pa_cons (pe_op op_add (pe_callB (call_min2 rfl) (by rfl) T.b_min (by decide +kernel) (pa_cons pe_int (pa_cons (pe_callB call_len_seq (by rfl) T.b_len (by decide +kernel) (pa_cons (pv 1) pa_nil)) pa_nil))) pe_int) pa_nil))))
  (pss_cons (ps_set (i := 4) nd rfl (by first | exact Or.inl rfl | exact Or.inr rfl) (pe_ix ix_list (pe_lst (pa_cons pe_int (pa_cons (pe_un un_neg pe_int) (pa_cons (pe_op op_add pe_int (pv 2)) (pa_cons (pe_op op_sub (pe_un un_neg pe_int) (pv 2)) pa_nil))))) (pe_c G__law_take (hr.mono (by decide)) pass0 (pa_cons (pv 0) (pa_cons pe_int pa_nil))) (fun _ _ => rfl)))
  (pss_cons (ps_set (i := 5) nd rfl (by first | exact Or.inl rfl | exact Or.inr rfl) (pe_lst (pa_cons (pe_tup (pa_cons (pe_op op_cat (pe_op op_cat (pe_op op_cat (pe_slice sl_list (pv 1) po_none (po_some (pv 3))) (pe_lst (pa_cons (pv 4) pa_nil))) (pe_slice sl_list (pv 1) (po_some (pv 3)) (po_some pe_int))) (pe_lst (pa_cons (pv 4) pa_nil))) (pa_cons (pv 3) pa_nil))) (pa_cons (pe_tup (pa_cons (pe_lst pa_nil) (pa_cons pe_int pa_nil))) (pa_cons (pe_tup (pa_cons (pe_op op_rep (pe_lst (pa_cons pe_int pa_nil)) (pe_op op_add pe_int (pe_c G__law_take (hr.mono (by decide)) pass0 (pa_cons (pv 0) (pa_cons pe_int pa_nil))))) (pa_cons pe_int pa_nil))) pa_nil)))))
  (pss_cons (ps_asg (pe_ix ix_list (pv 5) (pe_c G__law_take (hr.mono (by decide)) pass0 (pa_cons (pv 0) (pa_cons pe_int pa_nil))) (fun _ _ => rfl)) (pg_tup (by rfl) (pgs_cons (pg_name (i := 6) nd rfl (by first | exact Or.inl rfl | exact Or.inr rfl)) (pgs_cons (pg_name (i := 7) nd rfl (by first | exact Or.inl rfl | exact Or.inr rfl)) pgs_nil))))
  (pss_cons (ps_set (i := 8) nd rfl (by first | exact Or.inl rfl | exact Or.inr rfl) (pe_ix ix_list (pe_lst (pa_cons pe_str (pa_cons pe_str (pa_cons pe_str (pa_cons pe_str (pa_cons pe_str pa_nil)))))) (pe_c G__law_take (hr.mono (by decide)) pass0 (pa_cons (pv 0) (pa_cons pe_int pa_nil))) (fun _ _ => rfl)))
  (pss_cons (ps_set (i := 9) nd rfl (by first | exact Or.inl rfl | exact Or.inr rfl) (pe_lst (pa_cons (pe_lam0 (c := c) (P := P3) (T := TL3 P1 P2 P3) TB rfl tl_m3 (tl_u3 n13 n23) (lamP_by (show lamPB N__law_refuses (defScope s__law_refuses) _ [] = true by decide +kernel)).free rfl) (pa_cons (pe_lam1 (c := c) (P := P3) (T := TL3 P1 P2 P3) (i := 0) TB rfl tl_m3 (tl_u3 n13 n23) (lamP_by (show lamPB N__law_refuses (defScope s__law_refuses) _ ["_law_a"] = true by decide +kernel)).free rfl rfl pe_int) (pa_cons (pe_lam1 (c := c) (P := P3) (T := TL3 P1 P2 P3) (i := 0) TB rfl tl_m3 (tl_u3 n13 n23) (lamP_by (show lamPB N__law_refuses (defScope s__law_refuses) _ ["_law_b"] = true by decide +kernel)).free rfl rfl pe_int) (pa_cons (pe_lam1 (c := c) (P := P3) (T := TL3 P1 P2 P3) (i := 0) TB rfl tl_m3 (tl_u3 n13 n23) (lamP_by (show lamPB N__law_refuses (defScope s__law_refuses) _ ["_law_c"] = true by decide +kernel)).free rfl rfl pe_int) pa_nil))))))
  (pss_cons (ps_if (pt_not (pt_val (pe_callL (fun b => G_all b) hr (fun _ => rfl) (pa_cons (pe_op op_cat (pv 9) (pe_lst (pa_cons (pe_lam1 (c := c) (P := P3) (T := TL3 P1 P2 P3) (i := 0) TB rfl tl_m3 (tl_u3 n13 n23) (lamP_by (show lamPB N__law_refuses (defScope s__law_refuses) _ ["_law_d"] = true by decide +kernel)).free rfl rfl pe_int) pa_nil))) (pa_cons (pe_tup (pa_cons pe_str (pa_cons (pv 7) pa_nil))) pa_nil)))))
  (pss_one (ps_ret pe_bl))
  pss_nil)
  (pss_cons (ps_set (i := 10) nd rfl (by first | exact Or.inl rfl | exact Or.inr rfl) (pe_ix ix_list (pe_lst (pa_cons pe_str (pa_cons pe_str (pa_cons pe_str (pa_cons pe_str pa_nil))))) (pe_c G__law_take (hr.mono (by decide)) pass0 (pa_cons (pv 0) (pa_cons pe_int pa_nil))) (fun _ _ => rfl)))
  (pss_one (ps_ret (pe_callL (fun b => G_all b) hr (fun _ => rfl) (pa_cons (pe_lst (pa_cons (pe_lam0 (c := c) (P := P3) (T := TL3 P1 P2 P3) TB rfl tl_m3 (tl_u3 n13 n23) (lamP_by (show lamPB N__law_refuses (defScope s__law_refuses) _ [] = true by decide +kernel)).free rfl) pa_nil)) (pa_cons (pe_tup (pa_cons pe_str (pa_cons pe_int pa_nil))) pa_nil)))))))))))))), ?_⟩
    have few := G.few
    refine ⟨_, rfl, _, _, rfl, rfl, ⟨by decide, by decide, by decide⟩, b, l, _, rfl, w0.bx, by decide, by decide, fun H1 far B1 O1 f0 f1 => ?_⟩
    have w1 := w0.go B1 O1
    have f1' : far < 1000000000000000000 := f1
    refine ⟨_, rfl, _, rfl, vp, _, rfl, .inl (SqL.of w1.at_v), _, _, rfl, _, _, rfl, rfl, ?_⟩
    rw [List.length_map]
    obtain ⟨mx, hmx, hmx2⟩ : ∃ mx : Int, mx = (if (ns.length : Int) < 31 then (ns.length : Int) else 31) ∧ (mx ≤ ns.length ∧ mx ≤ 31 ∧ 0 ≤ mx) := ⟨_, rfl, by split <;> omega⟩
    try dsimp only
    rw [← hmx]
    refine ⟨b, l, _, rfl, w1.bx, by omega, by omega, fun H2 at1 B2 O2 a0 a1 => ?_⟩
    have w2 := w1.go B2 O2
    obtain ⟨i1, rfl⟩ := Int.eq_ofNat_of_zero_le a0
    have hi1 : i1 ≤ ns.length := by omega
    have hi31 : i1 ≤ 31 := by omega
    refine ⟨_, rfl, _, rfl, _, _, rfl, rfl, _, rfl, _, rfl, _, _, rfl, rfl, (by show 4 ≤ sizeLine; decide), fun q nq => ?_⟩
    have w3 := w2.same (Same.upd (o := .lst ([10000, -10000, 10000 + far, -10000 - far].map V.int)) nq)
    obtain ⟨qb, ql⟩ := w2.bx.free nq
    refine ⟨_, rfl, b, l, 4, rfl, w3.bx, by decide, by decide, fun H4 t B4 O4 t0 t1 => ?_⟩
    obtain ⟨x, hx, xa⟩ := pickI (zs := [10000, -10000, 10000 + far, -10000 - far]) t0 t1
    have xbad : x < -9999 ∨ 9999 < x := by
      simp only [List.mem_cons, List.not_mem_nil, or_false] at hx
      omega
    have w4 := w3.go B4 O4
    refine ⟨q, _, t, _, rfl, rfl, SqL.of (O4.at qb ql upd_same), xa, ?_⟩
    suffices hh : ∀ H5, WB H H5 (TL3 P1 P2 P3) b l vp ns → _ from hh _ w4
    clear w4 w3
    intro H5 w5
    -- the cases
    refine ⟨_, rfl, _, rfl, _, rfl, vp, _, rfl, SqL.of w5.at_v, fun p1 np1 => ?_⟩
    have h6 : (L2.upd H5 p1 (.lst (cutV (ns.map V.int) none (some (i1 : Int))))) p1 = some (.lst ((ns.take i1).map V.int)) := by rw [upd_same, cutW_ok, cutW_take]
    have w6 := w5.same (Same.upd (o := .lst (cutV (ns.map V.int) none (some (i1 : Int)))) np1)
    generalize hW6 : L2.upd H5 p1 (HO.lst (cutV (ns.map V.int) none (some (i1 : Int)))) = H6 at w6 h6 ⊢
    refine ⟨_, rfl, (by show 1 ≤ sizeLine; decide), fun r nr => ?_⟩
    have s7 := Same.upd (o := .lst [V.int x]) nr
    have ltk : ((ns.take i1).map V.int).length ≤ 32 := by
      rw [List.length_map, List.length_take]
      omega
    refine ⟨p1, r, _, _, rfl, rfl, s7 _ _ h6, upd_same, by rw [sizeLine_eq]; show _ + 1 ≤ _; omega, fun c1 nc1 => ?_⟩
    have h8 : (L2.upd (L2.upd H6 r (.lst [.int x])) c1 (.lst ((ns.take i1).map V.int ++ [.int x]))) c1 = some (.lst ((ns.take i1 ++ [x]).map V.int)) := by
      rw [upd_same, List.map_append]
      rfl
    suffices hh : ∀ H8, (WB H H8 (TL3 P1 P2 P3) b l vp ns ∧ H8 c1 = some (.lst ((ns.take i1 ++ [x]).map V.int))) → _ from hh _ ⟨(w6.same s7).same (Same.upd nc1), h8⟩
    rintro H8 ⟨w8, hc1⟩
    refine ⟨_, rfl, _, rfl, _, rfl, _, rfl, vp, _, rfl, SqL.of w8.at_v, fun p2 np2 => ?_⟩
    have h9 : (L2.upd H8 p2 (.lst (cutV (ns.map V.int) (some (i1 : Int)) (some 31)))) p2 = some (.lst ((cutW ns (some (i1 : Int)) (some 31)).map V.int)) := by rw [upd_same, cutW_ok]
    have s9 := Same.upd (o := .lst (cutV (ns.map V.int) (some (i1 : Int)) (some 31))) np2
    have w9 := w8.same s9
    have hc1' := s9 _ _ hc1
    generalize hW9 : L2.upd H8 p2 (HO.lst (cutV (ns.map V.int) (some (i1 : Int)) (some 31))) = H9 at w9 hc1' h9 ⊢
    have lcut := cutW_le ns (some (i1 : Int)) (some 31)
    refine ⟨c1, p2, _, _, rfl, rfl, hc1', h9, by rw [List.length_map, List.length_map, List.length_append, List.length_take, sizeLine_eq]; show _ + 1 + _ ≤ _; omega, fun c2 nc2 => ?_⟩
    have h10 : (L2.upd H9 c2 (.lst ((ns.take i1 ++ [x]).map V.int ++ (cutW ns (some (i1 : Int)) (some 31)).map V.int))) c2 = some (.lst (((ns.take i1 ++ [x]) ++ cutW ns (some (i1 : Int)) (some 31)).map V.int)) := by rw [upd_same, ← List.map_append]
    suffices hh : ∀ H10, (WB H H10 (TL3 P1 P2 P3) b l vp ns ∧ H10 c2 = some (.lst (((ns.take i1 ++ [x]) ++ cutW ns (some (i1 : Int)) (some 31)).map V.int))) → _ from hh _ ⟨w9.same (Same.upd nc2), h10⟩
    rintro H10 ⟨w10, hc2⟩
    refine ⟨_, rfl, (by show 1 ≤ sizeLine; decide), fun r2 nr2 => ?_⟩
    have s11 := Same.upd (o := .lst [V.int x]) nr2
    refine ⟨c2, r2, _, _, rfl, rfl, s11 _ _ hc2, upd_same, by rw [List.length_map, List.length_append, List.length_append, List.length_take, sizeLine_eq]; show _ + 1 + _ + 1 ≤ _; omega, fun bd nbd => ?_⟩
    obtain ⟨bads, hbads⟩ : ∃ bads, bads = ns.take i1 ++ x :: (cutW ns (some (i1 : Int)) (some 31) ++ [x]) := ⟨_, rfl⟩
    have fbad : FirstBadV bads i1 := by
      rw [hbads]
      exact bad_put G hi1 hi31 xbad
    have lbad : bads.length ≤ 1000 := by
      rw [hbads, List.length_append, List.length_take, List.length_cons, List.length_append]
      show _ + (_ + 1 + 1) ≤ _
      omega
    have h12 : (L2.upd (L2.upd H10 r2 (.lst [.int x])) bd (.lst (((ns.take i1 ++ [x]) ++ cutW ns (some (i1 : Int)) (some 31)).map V.int ++ [.int x]))) bd = some (.lst (bads.map V.int)) := by
      rw [upd_same, hbads]
      simp
    obtain ⟨bdb, bdl⟩ := (w10.same s11).bx.free nbd
    have w12 := (w10.same s11).same (Same.upd (o := .lst (((ns.take i1 ++ [x]) ++ cutW ns (some (i1 : Int)) (some 31)).map V.int ++ [.int x])) nbd)
    generalize hW12 : L2.upd (L2.upd H10 r2 (HO.lst [V.int x])) bd (HO.lst (((ns.take i1 ++ [x]) ++ cutW ns (some (i1 : Int)) (some 31)).map V.int ++ [V.int x])) = H12 at w12 h12 ⊢
    have hbd := h12
    refine ⟨_, rfl, (by show 2 ≤ sizeLine; decide), fun u1 nu1 => ?_⟩
    have s13 := Same.upd (o := .tup [.ref bd, .int (i1 : Int)]) nu1
    have C1 : CaseAt (L2.upd H12 u1 (.tup [.ref bd, .int (i1 : Int)])) b l (.ref u1) := ⟨u1, bd, bads, i1, rfl, upd_same, s13 _ _ hbd, bdb, bdl, lbad, fbad⟩
    suffices hh : ∀ H13, (WB H H13 (TL3 P1 P2 P3) b l vp ns ∧ CaseAt H13 b l (.ref u1)) → _ from hh _ ⟨w12.same s13, C1⟩
    clear C1
    rintro H13 ⟨w13, C1⟩
    refine ⟨Nat.zero_le _, fun e1 ne1 => ?_⟩
    have s14 := Same.upd (o := .lst []) ne1
    obtain ⟨e1b, e1l⟩ := w13.bx.free ne1
    refine ⟨(by show 2 ≤ sizeLine; decide), fun u2 nu2 => ?_⟩
    have s15 := Same.upd (o := .tup [.ref e1, .int 0]) nu2
    have C2 : CaseAt (L2.upd (L2.upd H13 e1 (.lst [])) u2 (.tup [.ref e1, .int 0])) b l (.ref u2) := ⟨u2, e1, [], 0, rfl, upd_same, s15 _ _ upd_same, e1b, e1l, Nat.zero_le _, .inl ⟨rfl, rfl⟩⟩
    suffices hh : ∀ H15, (WB H H15 (TL3 P1 P2 P3) b l vp ns ∧ CaseAt H15 b l (.ref u1) ∧ CaseAt H15 b l (.ref u2)) → _ from hh _ ⟨(w13.same s14).same s15, (C1.same s14).same s15, C2⟩
    clear C1 C2
    rintro H15 ⟨w15, C1, C2⟩
    refine ⟨(by show 1 ≤ sizeLine; decide), fun z1 nz1 => ?_⟩
    have s16 := Same.upd (o := .lst [V.int 7]) nz1
    obtain ⟨z1b, z1l⟩ := w15.bx.free nz1
    have w16 := w15.same s16
    refine ⟨_, rfl, b, l, 9, rfl, w16.bx, by decide, by decide, fun H17 n B17 O17 n0 n1 => ?_⟩
    have w17 := w16.go B17 O17
    have C1 := (C1.same s16).out w16.bx O17
    have C2 := (C2.same s16).out w16.bx O17
    refine ⟨_, _, rfl, rfl, _, _, _, rfl, rfl, O17.at z1b z1l upd_same, by omega, by omega, by rw [sizeLine_eq]; show 1 * _ ≤ _; omega, fun rp nrp => ?_⟩
    try dsimp only
    rw [rep7]
    have s18 := Same.upd (o := .lst ((List.replicate (33 + n).toNat (7 : Int)).map V.int)) nrp
    obtain ⟨rpb, rpl⟩ := w17.bx.free nrp
    refine ⟨(by show 2 ≤ sizeLine; decide), fun u3 nu3 => ?_⟩
    have s19 := Same.upd (o := .tup [.ref rp, .int 32]) nu3
    have C3 : CaseAt (L2.upd (L2.upd H17 rp (.lst ((List.replicate (33 + n).toNat (7 : Int)).map V.int))) u3 (.tup [.ref rp, .int 32])) b l (.ref u3) := ⟨u3, rp, List.replicate (33 + n).toNat 7, 32, rfl, upd_same, s19 _ _ upd_same, rpb, rpl, by rw [List.length_replicate]; omega, bad_many (by omega)⟩
    have w19 := (w17.same s18).same s19
    have C1 := (C1.same s18).same s19
    have C2 := (C2.same s18).same s19
    generalize hW19 : L2.upd (L2.upd H17 rp (HO.lst ((List.replicate (33 + n).toNat (7 : Int)).map V.int))) u3 (HO.tup [V.ref rp, V.int 32]) = H19 at w19 C1 C2 C3 ⊢
    refine ⟨(by show 3 ≤ sizeLine; decide), fun cp ncp => ?_⟩
    have s20 := Same.upd (o := .lst [.ref u1, .ref u2, .ref u3]) ncp
    obtain ⟨cpb, cpl⟩ := w19.bx.free ncp
    have w20 := w19.same s20
    refine ⟨_, rfl, _, rfl, b, l, 3, rfl, w20.bx, by decide, by decide, fun H21 t3 B21 O21 t30 t31 => ?_⟩
    have w21 := w20.go B21 O21
    have C1 := (C1.same s20).out w20.bx O21
    have C2 := (C2.same s20).out w20.bx O21
    have C3 := (C3.same s20).out w20.bx O21
    obtain ⟨y, hy, C⟩ : ∃ y, atI [V.ref u1, V.ref u2, V.ref u3] t3 = some y ∧ CaseAt H21 b l y := by
      obtain ⟨j, rfl⟩ := Int.eq_ofNat_of_zero_le t30
      have hj : j < 3 := by omega
      match j, hj with
      | 0, _ => exact ⟨_, at_of (j := 0) rfl rfl, C1⟩
      | 1, _ => exact ⟨_, at_of (j := 1) rfl rfl, C2⟩
      | 2, _ => exact ⟨_, at_of (j := 2) rfl rfl, C3⟩
      | n + 3, h => omega
    have hcp := O21.at cpb cpl (upd_same (H := H19) (a := cp) (o := .lst [.ref u1, .ref u2, .ref u3]))
    clear C1 C2 C3
    obtain ⟨u, bp, bads, pl, rfl, hu, hbp, bpb, bpl, lb, fb⟩ := C
    refine ⟨cp, _, t3, _, rfl, rfl, SqL.of hcp, hy, u, _, rfl, SqT.of hu, rfl, _, _, rfl, _, _, rfl, rfl, ?_⟩
    suffices hh : ∀ H22, (WB H H22 (TL3 P1 P2 P3) b l vp ns ∧ H22 bp = some (.lst (bads.map V.int))) → _ from hh _ ⟨w21, hbp⟩
    clear hcp hu hbp w21
    rintro H22 ⟨w22, hbp⟩
    -- the kind
    refine ⟨(by show 5 ≤ sizeLine; decide), fun kp nkp => ?_⟩
    have s23 := Same.upd (o := .lst [.str "plain", .str "one", .str "codes", .str "near", .str "steps"]) nkp
    obtain ⟨kpb, kpl⟩ := w22.bx.free nkp
    have w23 := w22.same s23
    refine ⟨_, rfl, b, l, 5, rfl, w23.bx, by decide, by decide, fun H24 t5 B24 O24 t50 t51 => ?_⟩
    have w24 := w23.go B24 O24
    have hbp24 := O24.at bpb bpl (s23 _ _ hbp)
    obtain ⟨j, hj, ja⟩ := pickN t50 t51
    refine ⟨kp, _, t5, _, rfl, rfl, SqL.of (O24.at kpb kpl upd_same), ja, ?_⟩
    suffices hh : ∀ H25, (WB H H25 (TL3 P1 P2 P3) b l vp ns ∧ H25 bp = some (.lst (bads.map V.int))) → _ from hh _ ⟨w24, hbp24⟩
    clear hbp24 w24
    rintro H25 ⟨w25, hbp⟩
    -- the lambdas
    refine ⟨w25.tabs, fun f1 d1 Ha e1 t1 M1 => ⟨t1, fun f2 d2 Hb e2 t2 M2 => ⟨t2, fun f3 d3 Hc e3 t3 M3 => ⟨t3, fun f4 d4 Hd e4 t4 M4 => ⟨(by show 4 ≤ sizeLine; decide), fun wp nwp => ?_⟩⟩⟩⟩⟩
    have sw := Same.upd (H := Hd) (o := .lst [.ref f1, .ref f2, .ref f3, .ref f4]) nwp
    refine ⟨_, rfl, tabs_same t4 sw, fun f5 d5 He e5 t5 M5 => ⟨(by show 1 ≤ sizeLine; decide), fun xp nxp => ?_⟩⟩
    have sx := Same.upd (H := He) (o := .lst [.ref f5]) nxp
    have ew := LamX.ExtN.of sw
    have hwp : (upd He xp (.lst [.ref f5])) wp = some (.lst [.ref f1, .ref f2, .ref f3, .ref f4]) := sx _ _ (e5.lst upd_same)
    refine ⟨wp, xp, _, _, rfl, rfl, hwp, upd_same, (by show 4 + 1 ≤ sizeLine; decide), fun yp nyp => ?_⟩
    have sy := Same.upd (o := .lst ([.ref f1, .ref f2, .ref f3, .ref f4] ++ [.ref f5])) nyp
    refine ⟨_, rfl, (by show 2 ≤ sizeLine; decide), fun q nq => fun b' LB => ⟨yp, q, [f1, f2, f3, f4, f5], rfl, SqL.of (Same.upd nq _ _ upd_same), (by show 5 ≤ 1000; decide), fun f hf => ?_, fun H7 s7 => ⟨_, rfl, ?_⟩⟩⟩
    · have sq := Same.upd (o := .tup [.str (cnm 1), .int pl]) nq
      have due : (L2.upd (L2.upd (L2.upd He xp (.lst [.ref f5])) yp (.lst ([.ref f1, .ref f2, .ref f3, .ref f4] ++ [.ref f5]))) q (.tup [.str (cnm 1), .int pl])) q = some (.tup [.str (cnm 1), .int pl]) := upd_same
      have sxy := (sx.trans sy).trans sq
      have eall := (((((e1.trans e2).trans e3).trans e4).trans ew).trans e5)
      have hbq := sxy _ _ (eall.lst hbp)
      have hf' : f = f1 ∨ f = f2 ∨ f = f3 ∨ f = f4 ∨ f = f5 := by simpa using hf
      rcases hf' with rfl | rfl | rfl | rfl | rfl
      · exact work_ref (k := 7) (i := 1) (pl := pl) (n := 3) (t := fun E => tCallS (spLaidV K (cs 1)) (fun _ => E) (tCons (tVar 8) (tCons (tVar 6) tNil))) (ps := []) LB ((((((M1.extN e2).extN e3).extN e4).same sw).extN e5).same sxy) (lamP_by (show lamPB N__law_refuses (defScope s__law_refuses) _ _ = true by decide +kernel)) (.inl ⟨rfl, fun _ _ _ _ _ _ => rfl⟩) (fun A outer s H E hr2 => pe_cS (E := fun _ => E) (X_laidV _) (hr2.mono (by decide)) (fun σ => passAt (takes_of rfl rfl rfl rfl) σ) (pa_cons (pv 8) (pa_cons (pv 6) pa_nil))) (by decide) (by decide) due
          (fun H' Q E s' hE => ⟨_, rfl, _, rfl, j, bp, bads, pl, rfl, hj, SqL.of (s' _ _ hbq), lb, fb, fun d H'' s'' _ hd => hE _ _ s'' (.place hd)⟩)
      · exact work_ref (k := 7) (i := 1) (pl := pl) (n := 3) (t := fun E => tCallS (spChVX K (cs 1)) (fun _ => E) (tCons (tVar 6) tNil)) (ps := ["_law_a"]) LB (((((M2.extN e3).extN e4).same sw).extN e5).same sxy) (lamP_by (show lamPB N__law_refuses (defScope s__law_refuses) _ _ = true by decide +kernel)) (.inr ⟨by simp, rfl, fun _ _ _ _ _ _ _ its hl => match its, hl with | [_], _ => ⟨_, rfl, rfl⟩⟩) (fun A outer s H E hr2 => pe_cS (E := fun _ => E) (X_least _) (hr2.mono (by decide)) (fun σ => passAt (takes_of rfl rfl rfl rfl) σ) (pa_cons (pv 6) pa_nil)) (by decide) (by decide) due
          (fun H' Q E s' hE => ⟨_, rfl, bp, bads, pl, rfl, SqL.of (s' _ _ hbq), lb, fb, fun d H'' s'' _ hd => hE _ _ s'' (.place hd)⟩)
      · exact work_ref (k := 7) (i := 1) (pl := pl) (n := 3) (t := fun E => tCallS (spChVX K (cs 1)) (fun _ => E) (tCons (tVar 6) tNil)) (ps := ["_law_b"]) LB ((((M3.extN e4).same sw).extN e5).same sxy) (lamP_by (show lamPB N__law_refuses (defScope s__law_refuses) _ _ = true by decide +kernel)) (.inr ⟨by simp, rfl, fun _ _ _ _ _ _ _ its hl => match its, hl with | [_], _ => ⟨_, rfl, rfl⟩⟩) (fun A outer s H E hr2 => pe_cS (E := fun _ => E) (X_cut _) (hr2.mono (by decide)) (fun σ => passAt (takes_of rfl rfl rfl rfl) σ) (pa_cons (pv 6) pa_nil)) (by decide) (by decide) due
          (fun H' Q E s' hE => ⟨_, rfl, bp, bads, pl, rfl, SqL.of (s' _ _ hbq), lb, fb, fun d H'' s'' _ hd => hE _ _ s'' (.place hd)⟩)
      · exact work_ref (k := 7) (i := 1) (pl := pl) (n := 3) (t := fun E => tCallS (spChVX K (cs 1)) (fun _ => E) (tCons (tVar 6) tNil)) (ps := ["_law_c"]) LB (((M4.same sw).extN e5).same sxy) (lamP_by (show lamPB N__law_refuses (defScope s__law_refuses) _ _ = true by decide +kernel)) (.inr ⟨by simp, rfl, fun _ _ _ _ _ _ _ its hl => match its, hl with | [_], _ => ⟨_, rfl, rfl⟩⟩) (fun A outer s H E hr2 => pe_cS (E := fun _ => E) (X_prices _) (hr2.mono (by decide)) (fun σ => passAt (takes_of rfl rfl rfl rfl) σ) (pa_cons (pv 6) pa_nil)) (by decide) (by decide) due
          (fun H' Q E s' hE => ⟨_, rfl, bp, bads, pl, rfl, SqL.of (s' _ _ hbq), lb, fb, fun d H'' s'' _ hd => hE _ _ s'' (.place hd)⟩)
      · exact work_ref (k := 7) (i := 1) (pl := pl) (n := 3) (t := fun E => tCallS (spBdX K (cs 1)) (fun _ => E) (tCons (tVar 6) (tCons (tLst tNil) tNil))) (ps := ["_law_d"]) LB (M5.same sxy) (lamP_by (show lamPB N__law_refuses (defScope s__law_refuses) _ _ = true by decide +kernel)) (.inr ⟨by simp, rfl, fun _ _ _ _ _ _ _ its hl => match its, hl with | [_], _ => ⟨_, rfl, rfl⟩⟩) (fun A outer s H E hr2 => pe_cS (E := fun _ => E) (X_bound _) (hr2.mono (by decide)) (fun σ => passAt (takes_of rfl rfl rfl rfl) σ) (pa_cons (pv 6) (pa_cons (pe_lst pa_nil) pa_nil))) (by decide) (by decide) due
          (fun H' Q E s' hE => ⟨_, rfl, Nat.zero_le _, fun g ng => ⟨bp, g, bads, pl, rfl, SqL.of (Same.upd ng _ _ (s' _ _ hbq)), lb, fb, fun d H'' s'' _ hd => hE _ _ ((Same.upd ng).trans s'') (.place hd)⟩⟩)
    refine ite2 (fun c => Bool.noConfusion (show false = true from c)) (fun _ => ?_)
    have sxyq := ((sx.trans sy).trans (Same.upd (o := .tup [.str (cnm 1), .int pl]) nq)).trans s7
    have w26 := ((((((w25.ext e1 t1).ext e2 t2).ext e3 t3).ext e4 t4).same sw).ext e5 t5).same sxyq
    have hbp26 := sxyq _ _ ((((((e1.trans e2).trans e3).trans e4).trans ew).trans e5).lst hbp)
    suffices hh : ∀ H26, (WB H H26 (TL3 P1 P2 P3) b l vp ns ∧ H26 bp = some (.lst (bads.map V.int))) → _ from hh _ ⟨w26, hbp26⟩
    clear w26 hbp26 sxyq s7 hbp w25
    rintro H26 ⟨w26, hbp⟩
    -- names that no form has
    refine ⟨(by show 4 ≤ sizeLine; decide), fun kp nkp => ?_⟩
    have s27 := Same.upd (o := .lst [.str "", .str "Plain", .str "runs", .str "codes "]) nkp
    obtain ⟨kpb, kpl⟩ := w26.bx.free nkp
    have w27 := w26.same s27
    refine ⟨_, rfl, b, l, 4, rfl, w27.bx, by decide, by decide, fun H28 t6 B28 O28 t60 t61 => ?_⟩
    have w28 := w27.go B28 O28
    have hbp28 := O28.at bpb bpl (s27 _ _ hbp)
    obtain ⟨z, hz, za⟩ := pickO t60 t61
    refine ⟨kp, _, t6, _, rfl, rfl, SqL.of (O28.at kpb kpl upd_same), za, ?_⟩
    refine ⟨w28.tabs, fun g1 d1 Ha e1 t1 M1 => ⟨(by show 1 ≤ sizeLine; decide), fun wp nwp => ?_⟩⟩
    have sw := Same.upd (H := Ha) (o := .lst [.ref g1]) nwp
    refine ⟨(by show 2 ≤ sizeLine; decide), fun q nq => fun b' LB => ⟨wp, q, [g1], rfl, SqL.of (Same.upd nq _ _ upd_same), (by show 1 ≤ 1000; decide), fun f hf => ?_, fun H29 s29 => ?_⟩⟩
    · have sq := sw.trans (Same.upd (o := .tup [.str (cnm 2), .int 0]) nq)
      have due : (L2.upd (L2.upd Ha wp (.lst [.ref g1])) q (.tup [.str (cnm 2), .int 0])) q = some (.tup [.str (cnm 2), .int 0]) := upd_same
      have hf' : f = g1 := by simpa using hf
      subst hf'
      exact work_ref (k := 7) (i := 2) (pl := 0) (n := 3) (t := fun E => tCallS (spLaidN K dM (cs 2)) (fun _ => E) (tCons (tVar 10) (tCons (tVar 6) tNil))) (ps := []) LB (M1.same sq) (lamP_by (show lamPB N__law_refuses (defScope s__law_refuses) _ _ = true by decide +kernel)) (.inl ⟨rfl, fun _ _ _ _ _ _ => rfl⟩) (fun A outer s H E hr2 => pe_cS (E := fun _ => E) (X_laidN _) (hr2.mono (by decide)) (fun σ => passAt (takes_of rfl rfl rfl rfl) σ) (pa_cons (pv 10) (pa_cons (pv 6) pa_nil))) (by decide) (by decide) due
        (fun H' Q E s' hE => ⟨_, rfl, _, rfl, z, .ref bp, rfl, hN z hz, hE _ _ (Same.refl _) (.inl ⟨by decide, by decide, by decide, rfl, rfl⟩)⟩)
    · exact k _ (((w28.ext e1 t1).same (sw.trans (Same.upd nq))).same s29)
end
end K3

set_option Elab.async false
set_option linter.all false
set_option maxRecDepth 100000
set_option maxHeartbeats 4000000
namespace K3
open PySem PySem.Spec PyProof.Rows L2
/-! ### min of a list of tuples (cells, stretches, ends) -/
abbrev C3 := PySem.W.T3 Int Int (List Int)
def c3D (t : C3) : PyData := PySem.W.Datum.toD t
/-- at v such a tuple -/
def CutV (K : PySem.W.Frag) (H : Hp) (v : V) (t : C3) : Prop := ∃ a e, v = .ref a ∧ SqT K H a [.int t.a, .int t.b, .ref e] ∧ H e = some (.lst (t.c.map V.int))
theorem dpAll_intsL {K : PySem.W.Frag} {H : Hp} : ∀ ns : List Int, DpAll K H (ns.map V.int) (ns.map PySem.W.Datum.toD)
  | [] => .nil
  | n :: r => .cons (.int n) (dpAll_intsL r)
theorem CutV.dp {K : PySem.W.Frag} {H : Hp} {v : V} {t : C3} (h : CutV K H v t) : Dp K H v (c3D t) := by
  obtain ⟨a, e, rfl, h1, h2⟩ := h
  exact .tup h1 (.cons (.int _) (.cons (.int _) (.cons (.lst (SqL.of h2) (dpAll_intsL _)) .nil)))
theorem c3_inj {a b : C3} (h : c3D a = c3D b) : a = b := by
  have e := PySem.W.Datum.eqv (α := C3) a b
  have e2 := PySem.W.Datum.eqv (α := C3) a a
  rw [decide_eq_true rfl] at e2
  have h' : PySem.W.Datum.toD a = PySem.W.Datum.toD b := h
  rw [← h', e2] at e
  exact of_decide_eq_true e.symm
theorem dpAll_cuts {K : PySem.W.Frag} {H : Hp} : ∀ {ys : List V} {ts : List C3}, Paired (CutV K H) ys ts → DpAll K H ys (ts.map c3D)
  | _, _, .nil => .nil
  | _, _, .cons h t => .cons h.dp (dpAll_cuts t)
def minC : List C3 → C3
  | [] => ⟨0, 0, []⟩
  | x :: xs => PySem.W.minOf x xs
def rMinC (K : PySem.W.Frag) : List V → Hp → VK → Prop := fun vs H Q => ∃ (p : Addr) (ys : List V) (ts : List C3), vs = [.ref p] ∧ SqL K H p ys ∧ Paired (CutV K H) ys ts ∧ ts ≠ [] ∧ ∀ y, CutV K H y (minC ts) → Q y H
theorem cr_minC {X : Cx} (hc : X.calm = true) (hu : X.A.units + 64 < cLine) : CallR X (.builtin "min") (rMinC X.K) := by
  intro pins s σ H vs us Q I r ⟨p, ys, ts, ev, hq, pr, hne, q⟩
  subst ev
  rw [Vals.ref1 r]
  obtain ⟨x, xs, rfl⟩ := List.exists_cons_of_ne_nil hne
  obtain ⟨its, rv, pl, hz⟩ := I.list hq
  obtain ⟨as, ra⟩ := Dp.readsAll I _ _ _ (dpAll_cuts pr) rv
  have hd : PySem.W.Datum.depth C3 ≤ 8 := by decide
  refine PySem.W.min_list_datum (x := x) (xs := xs) (I.ok.hd hc) pl.isList (vs := its.toArray) ⟨as, (show its.toArray.toList = its by simp).symm ▸ ra⟩ (by omega) fun i v h' tk hi hv hk => ?_
  have hi' : its[i]? = some v := by simpa using hi
  obtain ⟨y, hy, ry⟩ : ∃ y, ys[i]? = some y ∧ RelV y v := by
    obtain ⟨hl, hx⟩ := List.getElem?_eq_some_iff.mp hi'
    have e := Vals.length rv
    have hy : ys[i]? = some (ys[i]'(by omega)) := List.getElem?_eq_getElem (by omega)
    obtain ⟨z, hz2, rz⟩ := rv.get hy
    rw [hi'] at hz2
    cases hz2
    exact ⟨_, hy, rz⟩
  obtain ⟨t, ht, hC⟩ := paired_at pr hy
  obtain ⟨bs, rb⟩ := Dp.reads I _ _ _ hC.dp ry
  obtain ⟨cs, rc⟩ := hv
  have e := PySem.SeqAt.plain_unique _ _ _ _ _ (PySem.W.Datum.plain t) (Reads.keeps hk rb) rc
  obtain rfl := c3_inj e
  exact ⟨y, H, I.kept hk, ry, q y hC⟩
end K3

set_option Elab.async false
set_option linter.all false
set_option maxRecDepth 100000
set_option maxHeartbeats 4000000
namespace K3
open PySem PySem.Spec PyProof.Rows L2
/-- the stretch from i to j ahead of what follows -/
def cand (vs : List Int) (i j : Nat) (t : C3) : C3 := ⟨t.a + (room (bestF (seg vs i j) 5) : Int), t.b + 1, (j : Int) :: t.c⟩
/-- the least cut from i on -/
def bc (vs : List Int) (i : Nat) : C3 :=
  if h : i < vs.length then minC ((List.range (vs.length - i)).map fun k => cand vs i (i + 1 + k) (bc vs (i + 1 + k))) else ⟨0, 0, []⟩
termination_by vs.length - i
decreasing_by omega
theorem bc_end {vs : List Int} {i : Nat} (h : ¬ i < vs.length) : bc vs i = ⟨0, 0, []⟩ := by
  unfold bc
  rw [dif_neg h]
theorem bc_at {vs : List Int} {i : Nat} (h : i < vs.length) : bc vs i = minC ((List.range (vs.length - i)).map fun k => cand vs i (i + 1 + k) (bc vs (i + 1 + k))) := by
  conv => lhs; unfold bc
  rw [dif_pos h]
theorem minOf_mem : ∀ (xs : List C3) (x : C3), PySem.W.minOf x xs ∈ x :: xs
  | [], x => List.mem_cons_self ..
  | y :: r, x => by
    have e : PySem.W.minOf x (y :: r) = PySem.W.minOf (if PySem.W.DatumOrd.lt y x = true then y else x) r := rfl
    rw [e]
    have h := minOf_mem r (if PySem.W.DatumOrd.lt y x = true then y else x)
    rcases List.mem_cons.mp h with z | z
    · rw [z]
      split
      · exact List.mem_cons_of_mem _ (List.mem_cons_self ..)
      · exact List.mem_cons_self ..
    · exact List.mem_cons_of_mem _ (List.mem_cons_of_mem _ z)
theorem minC_mem {ts : List C3} (h : ts ≠ []) : minC ts ∈ ts := by
  obtain ⟨x, xs, rfl⟩ := List.exists_cons_of_ne_nil h
  exact minOf_mem xs x
theorem cands_ne {vs : List Int} {i : Nat} (h : i < vs.length) (f : Nat → C3) : ((List.range (vs.length - i)).map f) ≠ [] := fun z => by
  have := congrArg List.length z
  rw [List.length_map, List.length_range, List.length_nil] at this
  omega
theorem bc_len {vs : List Int} : ∀ (n i : Nat), vs.length - i ≤ n → (bc vs i).c.length ≤ vs.length - i
  | n, i, hn => by
    by_cases h : i < vs.length
    · rw [bc_at h]
      obtain ⟨k, hk, e⟩ := List.mem_map.mp (minC_mem (cands_ne h fun k => cand vs i (i + 1 + k) (bc vs (i + 1 + k))))
      have hk := List.mem_range.mp hk
      rw [← e]
      cases n with
      | zero => omega
      | succ n =>
        have ih := bc_len (vs := vs) n (i + 1 + k) (by omega)
        show (bc vs (i + 1 + k)).c.length + 1 ≤ vs.length - i
        omega
    · rw [bc_end h]
      exact Nat.zero_le _
theorem bestF_ok {ns : List Int} (G : Good ns) : FOk (bestF ns 5) := by
  obtain ⟨j, q, h1, _⟩ := bestF_at ns 4
  have h1 : (made ns 5)[j]? = some (q, bestF ns 5) := h1
  exact mk_ok G (made_in (List.mem_of_getElem? h1)).2
theorem good_seg {ns : List Int} (G : Good ns) {i j : Nat} (h : i < j) (hj : j ≤ ns.length) : Good (seg ns i j) := by
  have := G.few
  refine ⟨seg_ne hj h, by rw [seg_length hj]; omega, fun y hy => G.inn y (List.mem_of_mem_drop (List.mem_of_mem_take hy))⟩
theorem CutV.same {K : PySem.W.Frag} {H H' : Hp} {v : V} {t : C3} (h : CutV K H v t) (s : Same H H') : CutV K H' v t := by
  obtain ⟨a, e, rfl, h1, h2⟩ := h
  exact ⟨a, e, rfl, s.seqT h1, s _ _ h2⟩
theorem CutV.dct {K : PySem.W.Frag} {H : Hp} {d : Addr} {kvs kvs' : List (Key × V)} {v : V} {t : C3} (h : CutV K H v t) (hd : H d = some (.dK kvs)) : CutV K (upd H d (.dK kvs')) v t := by
  obtain ⟨a, e, rfl, h1, h2⟩ := h
  refine ⟨a, e, rfl, (SameT.dct hd).seqT h1, ?_⟩
  rw [upd_ne (ne_of h2 hd (by intro z; cases z))]
  exact h2
/-- .. its list of ends apart from l -/
def CutN (K : PySem.W.Frag) (H : Hp) (l : Addr) (v : V) (t : C3) : Prop := ∃ a e, v = .ref a ∧ SqT K H a [.int t.a, .int t.b, .ref e] ∧ H e = some (.lst (t.c.map V.int)) ∧ e ≠ l
theorem CutN.cut {K : PySem.W.Frag} {H : Hp} {l : Addr} {v : V} {t : C3} (h : CutN K H l v t) : CutV K H v t := by
  obtain ⟨a, e, h0, h1, h2, _⟩ := h
  exact ⟨a, e, h0, h1, h2⟩
theorem CutN.same {K : PySem.W.Frag} {H H' : Hp} {l : Addr} {v : V} {t : C3} (h : CutN K H l v t) (s : Same H H') : CutN K H' l v t := by
  obtain ⟨a, e, rfl, h1, h2, h3⟩ := h
  exact ⟨a, e, rfl, s.seqT h1, s _ _ h2, h3⟩
theorem CutN.put {K : PySem.W.Frag} {H : Hp} {l : Addr} {xs ys : List V} {v : V} {t : C3} (h : CutN K H l v t) (hl : H l = some (.lst xs)) : CutN K (upd H l (.lst ys)) l v t := by
  obtain ⟨a, e, rfl, h1, h2, h3⟩ := h
  exact ⟨a, e, rfl, (SameT.lst hl).seqT h1, (upd_ne h3).trans h2, h3⟩
section
variable {P : Program} {w : World} {K : PySem.W.Frag} {mg : Str → Option Value} {base : Heap}
def spLcut (K : PySem.W.Frag) : Sp := fun vs H Q _ => ∃ (a : Addr) (ns : List Int), vs = [.ref a] ∧ SqL K H a (ns.map V.int) ∧ Good ns ∧
  ∀ (H' : Hp) (x : V), Same H H' → CutV K H' x (bc ns 0) → Q x H'
end
end K3

set_option Elab.async false
set_option linter.all false
set_option maxRecDepth 100000
set_option maxHeartbeats 4000000
/-! K2L: the law -/
namespace K3
open PySem PySem.Spec PyProof.Rows L2
section
variable {P : Program} {w : World} {K : PySem.W.Frag} {mg : Str → Option Value} {base : Heap}
def spLaw2 (K : PySem.W.Frag) (T : List (Addr × Str)) : Sp := fun vs H Q _ => ∃ (a : Addr) (ns : List Int), vs = [.ref a] ∧ SqL K H a (ns.map V.int) ∧ ns.length ≤ 63 ∧ LamX.Tabs T H ∧ ∀ H', Q (.bl true) H'
theorem ok_law2 {cs : Nat → Addr} {P1 P2 P3 c : Addr} (n12 : P1 ≠ P2) (n13 : P1 ≠ P3) (T : Txt mg) {f : Addr} {fd : FuncData} (D : FunD K "law" "law" (defArgs s_law) (defBody s_law) (defScope s_law) [] [] f fd) (hcode : fd.code = .ref c) (TB : LamX.TabB base mg c P1)
    (G_told : ∀ b, Fn P w K mg b CX0 9 "_law_told" P__law_told (spTold P w K mg 7 cs b))
    (G__law_begun : Fn P w K mg base CX0 1 "_law_begun" P__law_begun (spBegun K)) (G__law_take : Fn P w K mg base CX0 1 "_law_take" P__law_take spTake) (G__law_values : Fn P w K mg base CX0 2 "_law_values" P__law_values spVals)
    (G__law_form : Fn P w K mg base CX0 4 "_law_form" P__law_form (spLf K)) (G__law_alike : Fn P w K mg base CX0 4 "_law_alike" P__law_alike (spAlike K 3)) (G__law_least : Fn P w K mg base CX0 5 "_law_least" P__law_least (spBest K))
    (G__law_is : Fn P w K mg base CX0 11 "_law_is" P__law_is (spIs K (TL3 P1 P2 P3))) (G__law_refuses : Fn P w K mg base CX0 11 "_law_refuses" P__law_refuses (spRef K (TL3 P1 P2 P3)))
    (G_least_form : Fn P w K mg base CX0 6 "least_form" P_least_form (spBest K)) (X_laid : ∀ b, Fn P w K mg b (L2.CX P w) 6 "laid" P_laid (spLaid K (cs 2))) : FnOk P w K mg base CX0 12 f fd P_law (spLaw2 K (TL3 P1 P2 P3)) := by
  refine okT D hcode sc_law (fun vs H Q E h => ?_) (fun A outer s H vs Q E hr h => ?_)
  · obtain ⟨a, ns, rfl, _⟩ := h
    rfl
  · obtain ⟨a, ns0, rfl, hS, hl, hT, k⟩ := h
    have nd := sc_law.nd
    refine ⟨_, (pss_cons (ps_set (i := 1) nd rfl (by first | exact Or.inl rfl | exact Or.inr rfl) (pe_c G__law_begun (hr.mono (by decide)) pass0 (pa_cons (pv 0) pa_nil)))
  (pss_cons (ps_for PassesOwn.never rfl (pi_range1 (by rfl) T.b_range (pa_cons pe_int pa_nil)) (pg_name (i := 2) nd rfl (by first | exact Or.inl rfl | exact Or.inr rfl))
  (pss_cons (ps_set (i := 3) nd rfl (by first | exact Or.inl rfl | exact Or.inr rfl) (pe_c G__law_values (hr.mono (by decide)) pass0 (pa_cons (pv 1) (pa_cons pe_int pa_nil))))
  (Evl.pss_cut (ps_if (pt_cmpR op_eq (pe_c G__law_take (hr.mono (by decide)) pass0 (pa_cons (pv 1) (pa_cons pe_int pa_nil))) pe_int (nomark _))
  (pss_cons (ps_set (i := 6) nd rfl (by first | exact Or.inl rfl | exact Or.inr rfl) (pe_op op_sub pe_int (pe_c G__law_take (hr.mono (by decide)) pass0 (pa_cons (pv 1) (pa_cons pe_int pa_nil)))))
  (pss_cons (ps_setLc (i := 7) (own := [("_law_k", 9)]) (g := gName 9) (by rfl) nd rfl rfl (sw_true rfl rfl rfl (by decide +kernel)) (pi_range1 (by rfl) T.b_range (pa_cons (pe_c G__law_take (hr.mono (by decide)) pass0 (pa_cons (pv 1) (pa_cons pe_int pa_nil))) pa_nil)) (blkOk_by (own := [("_law_k", 9)]) (N := N_law) (sc := defScope s_law) (by decide +kernel)) (fun _ _ _ _ _ => pg_name (i := 9) nd rfl (Or.inl rfl)) (fun _ _ _ _ _ => pts_nil) (fun _ _ _ _ _ => (pe_op op_add (pv 6) (pe_c G__law_take (hr.mono (by decide)) pass0 (pa_cons (pv 1) (pa_cons pe_int pa_nil))))))
  (pss_one (ps_set (i := 3) nd rfl (by first | exact Or.inl rfl | exact Or.inr rfl) (pe_op op_cat (pe_ix ix_list (pe_lst (pa_cons (pe_lst (pa_cons (pv 6) (pa_cons (pe_op op_add (pv 6) pe_int) pa_nil))) (pa_cons (pe_lst (pa_cons (pv 6) (pa_cons (pv 6) (pa_cons (pe_op op_add (pv 6) pe_int) pa_nil)))) pa_nil))) (pe_c G__law_take (hr.mono (by decide)) pass0 (pa_cons (pv 1) (pa_cons pe_int pa_nil))) (fun _ _ => rfl)) (pv 7))))))
  pss_nil)
  (pss_cons (ps_set (i := 4) nd rfl (by first | exact Or.inl rfl | exact Or.inr rfl) (pe_callTy call_list_of (by rfl) T.b_list (by decide +kernel) (pa_cons (pv 3) pa_nil)))
  (pss_cons (ps_for PassesOwn.never rfl (pi_list (pe_lst (pa_cons pe_str (pa_cons pe_str (pa_cons pe_str (pa_cons pe_str (pa_cons pe_str pa_nil))))))) (pg_name (i := 5) nd rfl (by first | exact Or.inl rfl | exact Or.inr rfl))
  (pss_cons (ps_set (i := 8) nd rfl (by first | exact Or.inl rfl | exact Or.inr rfl) (pe_c G__law_form (hr.mono (by decide)) pass0 (pa_cons (pv 5) (pa_cons (pv 3) pa_nil))))
  (pss_cons (ps_if (pt_not (pt_val (pe_c G__law_alike (hr.mono (by decide)) pass0 (pa_cons (pe_callL (fun b => G_told b) (hr.mono (by decide)) (fun _ => rfl) (pa_cons (pe_lam0 (c := c) (P := P1) (T := TL3 P1 P2 P3) TB rfl tl_m1 (tl_u1 n12 n13) (lamP_by (show lamPB N_law (defScope s_law) _ [] = true by decide +kernel)).free rfl) pa_nil)) (pa_cons (pe_ifExp (pt_cmpR op_isN (pv 8) pe_non (nomark _)) (pe_tup (pa_cons pe_str (pa_cons pe_int pa_nil))) (pv 8)) pa_nil)))))
  (pss_one (ps_ret pe_bl))
  pss_nil)
  (pss_one (ps_if (PW.pt (pw_and (pt_cmpR op_notN (pv 8) pe_non (nomark _)) (pw_and1 (pt_not (pt_val (pe_c G__law_is (hr.mono (by decide)) pass0 (pa_cons (pv 1) (pa_cons (pv 8) (pa_cons (pv 3) pa_nil)))))))))
  (pss_one (ps_ret pe_bl))
  pss_nil)))))
  (pss_cons (ps_if (PW.pt (pw_or (pt_not (pt_val (pe_c G__law_alike (hr.mono (by decide)) pass0 (pa_cons (pe_c G_least_form (hr.mono (by decide)) pass0 (pa_cons (pv 4) pa_nil)) (pa_cons (pe_c G__law_least (hr.mono (by decide)) pass0 (pa_cons (pv 3) pa_nil)) pa_nil))))) (pw_or1 (pt_cmpR (op_neIs hr.units) (pv 4) (pv 3) (nomark _)))))
  (pss_one (ps_ret pe_bl))
  pss_nil)
  (pss_one (ps_if (pt_not (pt_val (pe_c G__law_refuses (hr.mono (by decide)) pass0 (pa_cons (pv 1) (pa_cons (pv 3) pa_nil)))))
  (pss_one (ps_ret pe_bl))
  pss_nil))))))))
  (pss_one (ps_ret pe_bl)))), ?_⟩
    refine ⟨_, rfl, a, ns0, rfl, hS, hl, fun H1 b l s1 B1 => ?_⟩
    refine ⟨_, rfl, by decide, by decide, for_it (walk_range (lo := 0)) (fun i σ H' => (∃ v2 v3 v4 v5 v6 v7 v8 v9, σ = [some (.ref a), some (.ref b), v2, v3, v4, v5, v6, v7, v8, v9]) ∧ Bx H' b l ∧ LamX.Tabs (TL3 P1 P2 P3) H') ⟨⟨none, none, none, none, none, none, none, none, rfl⟩, B1, tabs_same hT s1⟩ (fun _ _ _ _ _ => True.intro) ?_ ?_⟩
    · rintro i x σ H2 H2' hi ⟨⟨v2, v3, v4, v5, v6, v7, v8, v9, rfl⟩, B2, T2⟩ ⟨rfl, rfl⟩
      refine ⟨_, rfl, b, l, 32, rfl, B2, by decide, by decide, fun H3 vp ns B3 O3 nvp vb vl hv vne vfew vin => ?_⟩
      have G : Good ns := ⟨vne, by omega, vin⟩
      have w3 : WB H3 H3 (TL3 P1 P2 P3) b l vp ns := ⟨B3, .refl, vb, vl, hv, tabs_out T2 B2 O3⟩
      refine ⟨fun σ H5 => ∃ (vp : Addr) (ns : List Int) (v4 v5 v6 v7 v8 v9 : Option V), σ = [some (.ref a), some (.ref b), some (.int (0 + (i : Int))), some (.ref vp), v4, v5, v6, v7, v8, v9] ∧ WB H5 H5 (TL3 P1 P2 P3) b l vp ns ∧ Good ns, ?_, ?_⟩
      · refine ⟨_, rfl, b, l, 4, rfl, w3.bx, by decide, by decide, fun H4 z B4 O4 z0 z1 => ⟨rfl, _, rfl, ?_⟩⟩
        have w4 := (w3.go B4 O4).re
        clear w3 hv nvp vne vfew vin B4 O4 B3 O3
        refine ite2 (fun cc => ?_) (fun cc => ⟨vp, ns, _, _, _, _, _, _, rfl, w4, G⟩)
        refine ⟨_, rfl, b, l, 10000, rfl, w4.bx, by decide, by decide, fun H5 lw B5 O5 l0 l1 => ⟨_, _, rfl, rfl, ?_⟩⟩
        have w5 := w4.go B5 O5
        refine ⟨_, rfl, b, l, 9, rfl, w5.bx, by decide, by decide, fun H6 n B6 O6 n0 n1 => ⟨_, rfl, by omega, by omega, fun D0 nD => ?_⟩⟩
        have w6 := w5.go B6 O6
        obtain ⟨Db, Dl⟩ := w6.bx.free nD
        have Dv : D0 ≠ vp := fun z => by
          rw [z, w6.at_v] at nD
          cases nD
        refine lc_all (walk_range (lo := 0)) (fun m H' => WB H' H' (TL3 P1 P2 P3) b l vp ns ∧ ∃ xs : List Int, H' D0 = some (.lst (xs.map V.int)) ∧ xs.length = m ∧ ∀ x ∈ xs, -9999 ≤ x ∧ x ≤ 9999) ⟨(w6.same (Same.upd nD)).re, [], upd_same, rfl, fun x hx => nomatch hx⟩ (fun _ _ _ _ => True.intro) ?_ ?_
        · rintro m x H7 H7' hm ⟨w7, xs, hD, hlen, hxs⟩ ⟨rfl, rfl⟩
          refine ⟨_, rfl, _, rfl, b, l, 10000, rfl, w7.bx, by decide, by decide, fun H8 f B8 O8 f0 f1 => ⟨_, _, rfl, rfl, _, O8.at Db Dl hD, ?_, ?_, xs ++ [0 - lw + f], ?_, ?_, ?_⟩⟩
          · rw [List.length_map, sizeLine_eq]
            omega
          · exact (w7.go B8 O8).putS (O8.at Db Dl hD) Db Dl Dv
          · rw [upd_same, List.map_append]
            rfl
          · rw [List.length_append, hlen]
            rfl
          · intro x hx
            rcases List.mem_append.mp hx with z | z
            · exact hxs x z
            · rw [List.mem_singleton.mp z]
              omega
        rintro H7 ⟨w7, xs, hD, hlen, hxs⟩
        refine ⟨_, rfl, _, rfl, _, _, rfl, rfl, (by show 2 ≤ sizeLine; decide), fun q1 nq1 => ?_⟩
        have s8 := Same.upd (o := .lst ([0 - lw, 0 - lw + 9999].map V.int)) nq1
        refine ⟨_, rfl, _, rfl, _, rfl, _, _, rfl, rfl, (by show 3 ≤ sizeLine; decide), fun q2 nq2 => ?_⟩
        have s9 := Same.upd (o := .lst ([0 - lw, 0 - lw, 0 - lw + 9999].map V.int)) nq2
        refine ⟨(by show 2 ≤ sizeLine; decide), fun q3 nq3 => ?_⟩
        have s10 := Same.upd (o := .lst [.ref q1, .ref q2]) nq3
        have w10 := ((w7.same s8).same s9).same s10
        obtain ⟨q1b, q1l⟩ := w7.bx.free nq1
        obtain ⟨q2b, q2l⟩ := (w7.same s8).bx.free nq2
        obtain ⟨q3b, q3l⟩ := ((w7.same s8).same s9).bx.free nq3
        refine ⟨_, rfl, b, l, 2, rfl, w10.bx, by decide, by decide, fun H11 t B11 O11 t0 t1 => ?_⟩
        have w11 := w10.go B11 O11
        obtain ⟨qi, us, hqi, hus, ul, une, uin⟩ : ∃ (qi : Addr) (us : List Int), atI [V.ref q1, V.ref q2] t = some (.ref qi) ∧ H11 qi = some (.lst (us.map V.int)) ∧ us.length ≤ 3 ∧ us ≠ [] ∧ ∀ u ∈ us, -9999 ≤ u ∧ u ≤ 9999 := by
          obtain ⟨j, rfl⟩ := Int.eq_ofNat_of_zero_le t0
          have hj : j < 2 := by omega
          match j, hj with
          | 0, _ => exact ⟨q1, [0 - lw, 0 - lw + 9999], at_of (j := 0) rfl rfl, O11.at q1b q1l (s10 _ _ (s9 _ _ upd_same)), by show 2 ≤ 3; decide, by simp, fun u hu => by
              simp only [List.mem_cons, List.not_mem_nil, or_false] at hu
              omega⟩
          | 1, _ => exact ⟨q2, [0 - lw, 0 - lw, 0 - lw + 9999], at_of (j := 1) rfl rfl, O11.at q2b q2l (s10 _ _ upd_same), by show 3 ≤ 3; decide, by simp, fun u hu => by
              simp only [List.mem_cons, List.not_mem_nil, or_false] at hu
              omega⟩
          | n + 2, h => omega
        refine ⟨q3, _, t, _, rfl, rfl, SqL.of (O11.at q3b q3l upd_same), hqi, ?_⟩
        have hD11 := O11.at Db Dl (s10 _ _ (s9 _ _ (s8 _ _ hD)))
        refine ⟨_, rfl, qi, D0, _, _, rfl, rfl, hus, hD11, by rw [List.length_map, List.length_map, sizeLine_eq]; omega, fun vp2 nvp2 => ?_⟩
        obtain ⟨vb2, vl2⟩ := w11.bx.free nvp2
        have hv2 : (L2.upd H11 vp2 (.lst (us.map V.int ++ xs.map V.int))) vp2 = some (.lst ((us ++ xs).map V.int)) := by rw [upd_same, List.map_append]
        exact ⟨vp2, us ++ xs, _, _, _, _, _, _, rfl, ((w11.same (Same.upd nvp2)).other hv2 vb2 vl2), ⟨by simp [une], by rw [List.length_append]; omega, fun u hu => by
          rcases List.mem_append.mp hu with z | z
          · exact uin u z
          · exact hxs u z⟩⟩
      · rintro σ H5 ⟨vp, ns, v4, v5, v6, v7, v8, v9, rfl, w5, G⟩
        have few := G.few
        refine ⟨_, rfl, vp, _, rfl, .inl (SqL.of w5.at_v), fun hd nhd => ?_⟩
        obtain ⟨hdb, hdl⟩ := w5.bx.free nhd
        have s6 := Same.upd (o := .lst (ns.map V.int)) nhd
        refine ⟨(by show 5 ≤ sizeLine; decide), fun l5 n5 => ?_⟩
        have s7 := Same.upd (o := .lst [.str "plain", .str "one", .str "codes", .str "near", .str "steps"]) n5
        obtain ⟨l5b, l5l⟩ := (w5.same s6).bx.free n5
        refine ⟨l5, rfl, ⟨_, SqL.of upd_same⟩, for_it walk_list (fun m σ H' => (∃ v5 v8, σ = [some (.ref a), some (.ref b), some (.int (0 + (i : Int))), some (.ref vp), some (.ref hd), v5, v6, v7, v8, v9]) ∧ WB H' H' (TL3 P1 P2 P3) b l vp ns ∧ H' hd = some (.lst (ns.map V.int)) ∧ H' l5 = some (.lst [.str "plain", .str "one", .str "codes", .str "near", .str "steps"])) ⟨⟨v5, v8, rfl⟩, ((w5.same s6).same s7).re, s7 _ _ upd_same, upd_same⟩ (fun i σ H' _ ⟨_, _, _, e⟩ => SqL.of e) ?_ ?_⟩
        · rintro m x σ H8 H8' hm ⟨⟨v5, v8, rfl⟩, w8, hhd, hl5⟩ ⟨rfl, e⟩
          have hm : m < 5 := hm
          obtain rfl : V.str (nmOf m) = x := by
            have q : ∀ m, m < 5 → [V.str "plain", V.str "one", V.str "codes", V.str "near", V.str "steps"][m]? = some (.str (nmOf m)) := by decide
            rw [q m hm] at e
            exact Option.some.inj e
          refine ⟨_, rfl, _, rfl, m, vp, ns, rfl, hm, SqL.of w8.at_v, G, fun hn H9 s9 => ?_, fun F hF H9 p s9 hp => ?_⟩
          · have w9 := w8.same s9
            refine ⟨w9.tabs, fun f1 d1 Ha e1 t1 M1 => fun b' LB => ⟨f1, (fun H' Q' => ∀ (t : Addr) (H'' : Hp), Same H' H'' → H'' t = some (.tup [.str (cnm 2), .int 0]) → Q' (.ref t) H''), Ha, rfl, ?_, Same.refl _, fun t H10 s10 ht => ?_⟩⟩
            · exact work_of (k := 7) (t := fun E => tCallS (spLaid K (cs 2)) (fun _ => E) (tCons (tVar 5) (tCons (tVar 4) tNil))) (ps := []) LB M1 (lamP_by (show lamPB N_law (defScope s_law) _ _ = true by decide +kernel)) (.inl ⟨rfl, fun _ _ _ _ _ _ => rfl⟩) (fun A outer s H E hr2 => pe_cS (E := fun _ => E) (X_laid _) (hr2.mono (by decide)) (fun σ => passAt (takes_of rfl rfl rfl rfl) σ) (pa_cons (pv 5) (pa_cons (pv 4) pa_nil)))
                (fun H' Q' E s' Tt hE => ⟨_, rfl, _, rfl, m, hd, ns, rfl, hm, SqL.of (s' _ _ (e1.lst (s9 _ _ hhd))), G, (fun F hF => by rw [hn] at hF; cases hF), fun _ H'' s'' => hE _ _ _ ⟨2, 0, by decide, rfl, .inl ⟨by decide, by decide, by decide, rfl, rfl⟩, fun H3 t s3 nt ht => Tt t _ (s''.trans s3) ht⟩⟩)
            · refine ⟨_, rfl, rfl, _, rfl, ?_⟩
              refine ite2 (fun _ => ?_) (fun cc => absurd rfl cc)
              refine ⟨(by show 2 ≤ sizeLine; decide), fun q nq => ?_⟩
              have sq := Same.upd (o := .tup [.str "NoForm", .int 0]) nq
              refine ⟨.ref t, .ref q, rfl, 1, by decide, alk_due (sq _ _ ht) upd_same, _, rfl, ?_⟩
              refine ite2 (fun cc => Bool.noConfusion (show false = true from cc)) (fun _ => ?_)
              refine ⟨_, rfl, rfl, _, rfl, ?_⟩
              refine ite2 (fun cc => Bool.noConfusion (show false = true from cc)) (fun _ => ?_)
              have sall := s10.trans sq
              exact ⟨⟨_, _, rfl⟩, ((w9.ext e1 t1).same sall).re, sall _ _ (e1.lst (s9 _ _ hhd)), sall _ _ (e1.lst (s9 _ _ hl5))⟩
          · have w9 := w8.same s9
            have ok := mk_ok G hF
            refine ⟨w9.tabs, fun f1 d1 Ha e1 t1 M1 => fun b' LB => ⟨f1, (fun H' Q' => ∀ (t : Addr) (H'' : Hp), Same H' H'' → IsF K H'' t F → Q' (.ref t) H''), Ha, rfl, ?_, Same.refl _, fun t H10 s10 ht => ?_⟩⟩
            · exact work_of (k := 7) (t := fun E => tCallS (spLaid K (cs 2)) (fun _ => E) (tCons (tVar 5) (tCons (tVar 4) tNil))) (ps := []) LB M1 (lamP_by (show lamPB N_law (defScope s_law) _ _ = true by decide +kernel)) (.inl ⟨rfl, fun _ _ _ _ _ _ => rfl⟩) (fun A outer s H E hr2 => pe_cS (E := fun _ => E) (X_laid _) (hr2.mono (by decide)) (fun σ => passAt (takes_of rfl rfl rfl rfl) σ) (pa_cons (pv 5) (pa_cons (pv 4) pa_nil)))
                (fun H' Q' E s' Tt hE => ⟨_, rfl, _, rfl, m, hd, ns, rfl, hm, SqL.of (s' _ _ (e1.lst (s9 _ _ hhd))), G, (fun F' hF' H'' p' s'' hp' => by rw [hF] at hF'; cases hF'; exact Tt _ _ s'' hp'), (fun hn => by rw [hF] at hn; cases hn)⟩)
            · have hp10 : IsF K H10 p F := (hp.keep (.ext e1)).same s10
              refine ⟨_, rfl, rfl, _, rfl, ?_⟩
              refine ite2 (fun cc => nomatch (of_decide_eq_true cc)) (fun _ => ?_)
              refine ⟨_, rfl, .ref t, .ref p, rfl, 2, by decide, alkF ht hp10 ok, _, rfl, ?_⟩
              refine ite2 (fun cc => Bool.noConfusion (show false = true from cc)) (fun _ => ?_)
              refine ⟨_, rfl, rfl, _, rfl, ?_⟩
              refine ite2 (fun _ => ?_) (fun cc => absurd rfl cc)
              have w10 := ((w9.ext e1 t1).same s10).re
              refine ⟨_, rfl, _, rfl, _, rfl, b, l, p, vp, F, ns, rfl, w10, hp10, ok, mk_read G.ne G.few hF, G.few, fun H11 w11 => ⟨_, rfl, ?_⟩⟩
              refine ite2 (fun cc => Bool.noConfusion (show false = true from cc)) (fun _ => ?_)
              have h1 := s10 _ _ (e1.lst (s9 _ _ hhd))
              have h2 := s10 _ _ (e1.lst (s9 _ _ hl5))
              exact ⟨⟨_, _, rfl⟩, w11.re, w11.out.lst hdb hdl h1, w11.out.lst l5b l5l h2⟩
        · rintro σ H8 ⟨⟨v5, v8, rfl⟩, w8, hhd, hl5⟩
          have okb := bestF_ok G
          refine ⟨_, rfl, hd, ns, rfl, SqL.of hhd, G, fun H9 p s9 hp => ?_⟩
          have w9 := w8.same s9
          refine ⟨_, rfl, vp, ns, rfl, SqL.of w9.at_v, G, fun H10 p2 s10 hp2 => ?_⟩
          have w10 := w9.same s10
          refine ⟨.ref p, .ref p2, rfl, 2, by decide, alkF (hp.same s10) hp2 okb, _, rfl, ?_⟩
          refine ite2 (fun cc => Bool.noConfusion (show false = true from cc)) (fun _ => ?_)
          refine ⟨_, rfl, _, rfl, hd, vp, ns, ns, rfl, rfl, SqL.of (s10 _ _ (s9 _ _ hhd)), SqL.of w10.at_v, _, rfl, ?_⟩
          refine ite2 (fun cc => ?_) (fun _ => ?_)
          · have cc' : (!decide (ns = ns)) = true := cc
            rw [decide_eq_true rfl] at cc'
            cases cc'
          refine ⟨_, rfl, _, rfl, b, l, vp, ns, rfl, w10.re, G, fun H11 w11 => ⟨_, rfl, ?_⟩⟩
          refine ite2 (fun cc => Bool.noConfusion (show false = true from cc)) (fun _ => ?_)
          exact ⟨⟨_, _, _, _, _, _, _, _, rfl⟩, w11.bx, w11.tabs⟩
    · rintro σ H2 ⟨⟨v2, v3, v4, v5, v6, v7, v8, v9, rfl⟩, B2, T2⟩
      exact k _
end
end K3

set_option Elab.async false
set_option linter.all false
set_option maxRecDepth 100000
set_option maxHeartbeats 0
namespace K3
open PySem PySem.Spec PyProof.Rows L2
def mkD (x : Str) (st : Stmt) : He.DefD := ⟨(x, none), x, x, defArgs st, defBody st, defScope st, [], []⟩
def fnL : List He.DefD := [mkD "per_cell" s_per_cell, mkD "packed" s_packed, mkD "unpacked" s_unpacked, mkD "check_below" s_check_below, mkD "cell_of" s_cell_of, mkD "numbers_in" s_numbers_in, mkD "check_values" s_check_values, mkD "make_plain" s_make_plain, mkD "make_one" s_make_one, mkD "make_codes" s_make_codes, mkD "make_near" s_make_near, mkD "make_steps" s_make_steps, mkD "packed_from" s_packed_from, mkD "unpacked_from" s_unpacked_from, mkD "read_plain" s_read_plain, mkD "read_one" s_read_one, mkD "read_codes" s_read_codes, mkD "read_near" s_read_near, mkD "read_steps" s_read_steps, mkD "laid" s_laid, mkD "least_form" s_least_form, mkD "room" s_room, mkD "values_of" s_values_of, mkD "value_at" s_value_at, mkD "cut" s_cut, mkD "prices" s_prices, mkD "bound" s_bound, mkD "_law_begun" s__law_begun, mkD "_law_take" s__law_take, mkD "_law_alike" s__law_alike, mkD "_law_class" s__law_class, mkD "_law_told" s__law_told, mkD "_law_all" s__law_all, mkD "_law_per" s__law_per, mkD "_law_packed" s__law_packed, mkD "_law_above" s__law_above, mkD "_law_form" s__law_form, mkD "_law_room" s__law_room, mkD "_law_least" s__law_least, mkD "_law_values" s__law_values, mkD "_law_is" s__law_is, mkD "_law_refuses" s__law_refuses, mkD "law" s_law, ⟨("BadValues", some "__init__"), "__init__", "BadValues" ++ ".__init__", defArgs s_BadValues, defBody s_BadValues, defScope s_BadValues, [], []⟩]
def faL : List He.Fa := [.glo "per_cell", .glo "packed", .glo "unpacked", .glo "check_below", .glo "cell_of", .glo "numbers_in", .glo "check_values", .glo "make_plain", .glo "make_one", .glo "make_codes", .glo "make_near", .glo "make_steps", .glo "packed_from", .glo "unpacked_from", .glo "read_plain", .glo "read_one", .glo "read_codes", .glo "read_near", .glo "read_steps", .glo "laid", .glo "least_form", .glo "room", .glo "values_of", .glo "value_at", .glo "cut", .glo "prices", .glo "bound", .glo "_law_begun", .glo "_law_take", .glo "_law_alike", .glo "_law_class", .glo "_law_told", .glo "_law_all", .glo "_law_per", .glo "_law_packed", .glo "_law_above", .glo "_law_form", .glo "_law_room", .glo "_law_least", .glo "_law_values", .glo "_law_is", .glo "_law_refuses", .glo "law", .glo "MAKERS", .glo "READERS", .glo "BadNumber", .glo "BadValues", .glo "NoForm", .glo "BadPrices", .glo "BadKinds", .glo "BadRows", .glo "BadCondition", .glo "BadColumn", .glo "BadHeap", .glo "TooMany", .glo "BadBlock", .glo "Stopped", .glo "BadText", .glo "ColumnError", .int "LEAST_BASE" 2, .int "CELL_SIZE" 10000, .int "MOST_VALUES" 32, .int "MOST" 9999, .int "FURTHEST" 19998, .free "len", .free "tuple", .free "list", .free "int", .free "range", .free "enumerate", .free "reversed", .free "min", .free "max", .free "set", .free "sorted", .free "isinstance", .free "sum", .free "bool", .free "str", .free "ValueError", .exc "BadNumber", .exc "NoForm", .exc "BadPrices", .meth "BadValues" "__init__"]
def tabL : List He.Tab := [(fun K => He.ga K "MAKERS", [("plain" : Str), ("one" : Str), ("codes" : Str), ("near" : Str), ("steps" : Str)]), (fun K => He.ga K "READERS", [("plain" : Str), ("one" : Str), ("codes" : Str), ("near" : Str), ("steps" : Str)])]
def tfL : List He.Defn := [("law", none), ("_law_is", none), ("_law_refuses", none)]
def tab0 : List (Str × He.Dv) := [("plain", .glo "make_plain"), ("one", .glo "make_one"), ("codes", .glo "make_codes"), ("near", .glo "make_near"), ("steps", .glo "make_steps")]
def tab1 : List (Str × He.Dv) := [("plain", .glo "read_plain"), ("one", .glo "read_one"), ("codes", .glo "read_codes"), ("near", .glo "read_near"), ("steps", .glo "read_steps")]
def exL (K : PySem.W.Frag) : Bool := He.valsB K (He.ga K "MAKERS") tab0 && (He.valsB K (He.ga K "READERS") tab1 && ((decide ((He.cT K ("law", none)).2 ≠ (He.cT K ("_law_is", none)).2) && (decide ((He.cT K ("law", none)).2 ≠ (He.cT K ("_law_refuses", none)).2) && (decide ((He.cT K ("_law_is", none)).2 ≠ (He.cT K ("_law_refuses", none)).2) && oddN.all fun z => decide (PySem.W.nsIn K (He.ga K "MAKERS") z = some none)))) && (excBB K (He.ga K "ColumnError") && (excPB K (He.ga K "BadValues") && (kindsB K (fun i => He.ga K (cnm i)) (He.ga K "ColumnError"))))))
abbrev R : PySem.W.OpenRow := PySem.W.OpenLaw.row PySem.Challenge.rw_codecolumns_k02_five_forms
abbrev hk : PySem.W.Hook := hookY 4 faL fnL tabL tfL exL
def ob (s : PySem.W.SharedT) : He.AlX := obsY 4 faL fnL tabL tfL exL (HandSHeadRun.getT s)
theorem ob_eq (s : PySem.W.SharedT) : ob s = hk.obs s.abs := obsY_eq (HandSHeadRun.getT_eq s)
def looseL : List Str := [("per_cell" : Str), ("packed" : Str), ("unpacked" : Str), ("check_below" : Str), ("cell_of" : Str), ("numbers_in" : Str), ("check_values" : Str), ("make_plain" : Str), ("make_one" : Str), ("make_codes" : Str), ("make_near" : Str), ("make_steps" : Str), ("packed_from" : Str), ("unpacked_from" : Str), ("read_plain" : Str), ("read_one" : Str), ("read_codes" : Str), ("read_near" : Str), ("read_steps" : Str), ("laid" : Str), ("least_form" : Str), ("room" : Str), ("values_of" : Str), ("value_at" : Str), ("cut" : Str), ("best_ends" : Str), ("prices" : Str), ("bound" : Str), ("rooms_from" : Str), ("fewest_cells" : Str), ("packed_cells" : Str), ("_law_begun" : Str), ("_law_take" : Str), ("_law_alike" : Str), ("_law_class" : Str), ("_law_told" : Str), ("_law_all" : Str), ("_law_per" : Str), ("_law_packed" : Str), ("_law_above" : Str), ("_law_form" : Str), ("_law_room" : Str), ("_law_least" : Str), ("_law_values" : Str), ("_law_is" : Str), ("_law_refuses" : Str), ("ColumnError" : Str), ("BadNumber" : Str), ("BadValues" : Str), ("NoForm" : Str), ("BadPrices" : Str), ("BadKinds" : Str), ("BadRows" : Str), ("BadCondition" : Str), ("BadColumn" : Str), ("BadHeap" : Str), ("TooMany" : Str), ("BadBlock" : Str), ("Stopped" : Str), ("BadText" : Str), ("LEAST_BASE" : Str), ("CELL_SIZE" : Str), ("MOST_VALUES" : Str), ("MOST" : Str), ("MAKERS" : Str), ("READERS" : Str), ("FURTHEST" : Str)]
theorem run_f (w : World) : HandSHeadRun.RunEq R (PySem.W.view R.prog [72]) hk ob 9000 looseL (w.withFollow "special-get-raises" false) := by
  intro os
  kernel_rfl
theorem run_t (w : World) : HandSHeadRun.RunEq R (PySem.W.view R.prog [72]) hk ob 9000 looseL (w.withFollow "special-get-raises" true) := by
  intro os
  kernel_rfl
theorem run (w : World) : HandSHeadRun.RunEq R (PySem.W.view R.prog [72]) hk ob 9000 looseL w := PySem.W.byRow2 "special-get-raises" (P := fun w => HandSHeadRun.RunEq R (PySem.W.view R.prog [72]) hk ob 9000 looseL w) run_f run_t w
end K3

set_option Elab.async false
set_option linter.all false
set_option maxRecDepth 100000
set_option maxHeartbeats 0
namespace K3
open PySem PySem.Spec PyProof.Rows L2
/-! ### what the hook tells -/
theorem kkeys_of {K : PySem.W.Frag} {w : World} {a : Addr} {ks : List Str} (h : He.dicW K a = some (He.keysIn w.params ks)) : KKeys K w a ks := by
  obtain ⟨es, n, D⟩ := He.dicW_ok h
  refine ⟨es, n, D, ?_⟩
  unfold He.dicW at h
  rw [D.at_] at h
  have h1 : (match decide (("dict" : String) = "dict") && ((#[] : Array (Option Value)).isEmpty && !(a == sysModules)) with
    | true => some (es.toList.map He.keyOf)
    | false => none) = some (He.keysIn w.params ks) := h
  rw [D.low] at h1
  exact Option.some.inj h1
theorem tab_keys {w : World} {K : PySem.W.Frag} {fa : List He.Fa} {fn : List He.DefD} {ts : List He.Tab} (c : He.SaysT fa fn ts w K) (i : Nat) {t : He.Tab} (h : ts[i]? = some t := by rfl) : KKeys K w (t.1 K) t.2 := by
  have e : ts.map (fun t => He.dicW K (t.1 K)) = ts.map fun t => some (He.keysIn w.params t.2) := congrArg (fun z : He.AlT => z.2) c
  have e2 : (ts.map fun t => He.dicW K (t.1 K))[i]? = (ts.map fun t => some (He.keysIn w.params t.2))[i]? := by rw [e]
  rw [List.getElem?_map, List.getElem?_map, h] at e2
  exact kkeys_of (Option.some.inj e2)
theorem kdct_of {K : PySem.W.Frag} {w : World} {d : Addr} {ks : List Str} {kvs : List (Str × He.Dv)} (k : KKeys K w d ks) (h : He.valsB K d kvs = true) {x y : Str} (m : (x, He.Dv.glo y) ∈ kvs) : KDct K w d x (.ref (He.ga K y)) := by
  obtain ⟨es, n, D, _⟩ := k.ex
  obtain ⟨u, e, r⟩ := He.valsB_ok h m
  exact ⟨es, n, u, D.at_, D.lit, e, r⟩
theorem held_of {P : Program} {w : World} {K : PySem.W.Frag} {mg : Str → Option Value} {base : Heap} {k j : Nat} {x : Str} {ps : List Str} {sp : Sp} {a : Addr} (F : Fn P w K mg base CX0 k x ps sp) (hm : mg x = some (.ref a)) (hk : k ≤ j) : Held P w K mg base j a sp := by
  obtain ⟨f, fd, G, g, kp, b⟩ := F.ex
  obtain rfl : f = a := Value.ref.inj (Option.some.inj (g.symm.trans hm))
  exact ⟨fd, ps, G.mono hk, kp, b⟩
section
variable {P : Program} {w : World} {K : PySem.W.Frag} {h : Heap} {mg : Str → Option Value}
theorem df_of (X : K.In h) (G : h.Ns mainGlobals mg) (c : He.SaysD faL fnL K) (i j : Nat) {x : Str} {st : Stmt} {ps : List Str} (hd : fnL[i]? = some (mkD x st)) (hg : faL[j]? = some (.glo x))
    (hb : ∀ (kV doc pm : Value) (an : Option Addr) (cdv ct : Value) (us : List Value), us.length = ps.length → bindArgs (PySem.W.fnOf x x (defArgs st) (defBody st) (defScope st) .none kV doc pm an cdv ct) ⟨us, []⟩ = pure (ps.zip us)) : Df K mg x st ps := by
  obtain ⟨fd, F⟩ := c.def_ i hd
  exact ⟨_, fd, F, He.glo_ok X G (c.fact j hg), FunD.bindsN F hb⟩
theorem txt_of (X : K.In h) (G : h.Ns mainGlobals mg) (c : He.SaysD faL fnL K) : Txt mg where
  c_LEAST_BASE := He.int_ok X G (c.fact 59 rfl)
  c_CELL_SIZE := He.int_ok X G (c.fact 60 rfl)
  c_MOST_VALUES := He.int_ok X G (c.fact 61 rfl)
  c_MOST := He.int_ok X G (c.fact 62 rfl)
  b_len := He.free_ok X G (c.fact 64 rfl)
  b_tuple := He.free_ok X G (c.fact 65 rfl)
  b_list := He.free_ok X G (c.fact 66 rfl)
  b_int := He.free_ok X G (c.fact 67 rfl)
  b_range := He.free_ok X G (c.fact 68 rfl)
  b_enumerate := He.free_ok X G (c.fact 69 rfl)
  b_reversed := He.free_ok X G (c.fact 70 rfl)
  b_min := He.free_ok X G (c.fact 71 rfl)
  b_max := He.free_ok X G (c.fact 72 rfl)
  b_set := He.free_ok X G (c.fact 73 rfl)
  b_sorted := He.free_ok X G (c.fact 74 rfl)
  b_isinstance := He.free_ok X G (c.fact 75 rfl)
theorem law_facts {f : Addr} (X : K.In h) (G : h.Ns mainGlobals mg) (hfa : mg ("law" : Str) = some (.ref f)) (cx : He.SaysX faL fnL tabL tfL exL w h K) :
    ∃ fd : FuncData, (∀ (s : Shared) (v : Value), BindsTo s fd ⟨[v], []⟩ [("_law_script", v)]) ∧ ∀ base : Heap, K.In base → base.Ns mainGlobals mg → LamX.TabB base mg (He.cT K ("law", none)).1 (He.cT K ("law", none)).2 → LamX.TabB base mg (He.cT K ("_law_is", none)).1 (He.cT K ("_law_is", none)).2 → LamX.TabB base mg (He.cT K ("_law_refuses", none)).1 (He.cT K ("_law_refuses", none)).2 → FnOk P w K mg base CX0 12 f fd ["_law_script"] (spLaw2 K (TL3 (He.cT K ("law", none)).2 (He.cT K ("_law_is", none)).2 (He.cT K ("_law_refuses", none)).2)) := by
  have c := cx.t.d
  obtain ⟨fd, F⟩ := c.def_ 42 (d := mkD "law" s_law) rfl
  have e := hfa.symm.trans (He.glo_ok X G (c.fact 42 (f := .glo "law") rfl))
  cases e
  have hcode_law : fd.code = .ref (He.cT K ("law", none)).1 := by
    obtain ⟨oc, od, dV, kV, doc, pm, an, cdv, ct, osl, rfl, lk, hcd, _, _⟩ := F.ex
    obtain ⟨cc, ec⟩ := He.codeIn_ref hcd
    have e2 := He.codeOf_eq (p := ("law", none)) lk ec
    show cdv = _
    rw [ec, ← e2]
    rfl
  have b := FunD.bindsA (ps := ["_law_script"]) F fun _ _ _ _ _ _ us hl => match us, hl with | [_], _ => rfl
  refine ⟨fd, fun s v => b s [v] rfl, fun base _ _ TB_law TB__law_is TB__law_refuses => ?_⟩
  have T := txt_of X G c
  have D_per_cell : Df K mg "per_cell" s_per_cell P_per_cell := df_of X G c 0 0 rfl rfl fun _ _ _ _ _ _ us hl => match us, hl with | [_], _ => rfl
  have D_packed : Df K mg "packed" s_packed P_packed := df_of X G c 1 1 rfl rfl fun _ _ _ _ _ _ us hl => match us, hl with | [_, _], _ => rfl
  have D_unpacked : Df K mg "unpacked" s_unpacked P_unpacked := df_of X G c 2 2 rfl rfl fun _ _ _ _ _ _ us hl => match us, hl with | [_, _, _], _ => rfl
  have D_check_below : Df K mg "check_below" s_check_below P_check_below := df_of X G c 3 3 rfl rfl fun _ _ _ _ _ _ us hl => match us, hl with | [_, _], _ => rfl
  have D_cell_of : Df K mg "cell_of" s_cell_of P_cell_of := df_of X G c 4 4 rfl rfl fun _ _ _ _ _ _ us hl => match us, hl with | [_, _], _ => rfl
  have D_numbers_in : Df K mg "numbers_in" s_numbers_in P_numbers_in := df_of X G c 5 5 rfl rfl fun _ _ _ _ _ _ us hl => match us, hl with | [_, _], _ => rfl
  have D_check_values : Df K mg "check_values" s_check_values P_check_values := df_of X G c 6 6 rfl rfl fun _ _ _ _ _ _ us hl => match us, hl with | [_], _ => rfl
  have D_make_plain : Df K mg "make_plain" s_make_plain P_make_plain := df_of X G c 7 7 rfl rfl fun _ _ _ _ _ _ us hl => match us, hl with | [_], _ => rfl
  have D_make_one : Df K mg "make_one" s_make_one P_make_one := df_of X G c 8 8 rfl rfl fun _ _ _ _ _ _ us hl => match us, hl with | [_], _ => rfl
  have D_make_codes : Df K mg "make_codes" s_make_codes P_make_codes := df_of X G c 9 9 rfl rfl fun _ _ _ _ _ _ us hl => match us, hl with | [_], _ => rfl
  have D_make_near : Df K mg "make_near" s_make_near P_make_near := df_of X G c 10 10 rfl rfl fun _ _ _ _ _ _ us hl => match us, hl with | [_], _ => rfl
  have D_make_steps : Df K mg "make_steps" s_make_steps P_make_steps := df_of X G c 11 11 rfl rfl fun _ _ _ _ _ _ us hl => match us, hl with | [_], _ => rfl
  have D_packed_from : Df K mg "packed_from" s_packed_from P_packed_from := df_of X G c 12 12 rfl rfl fun _ _ _ _ _ _ us hl => match us, hl with | [_, _, _], _ => rfl
  have D_unpacked_from : Df K mg "unpacked_from" s_unpacked_from P_unpacked_from := df_of X G c 13 13 rfl rfl fun _ _ _ _ _ _ us hl => match us, hl with | [_, _, _, _], _ => rfl
  have D_read_plain : Df K mg "read_plain" s_read_plain P_read_plain := df_of X G c 14 14 rfl rfl fun _ _ _ _ _ _ us hl => match us, hl with | [_], _ => rfl
  have D_read_one : Df K mg "read_one" s_read_one P_read_one := df_of X G c 15 15 rfl rfl fun _ _ _ _ _ _ us hl => match us, hl with | [_], _ => rfl
  have D_read_codes : Df K mg "read_codes" s_read_codes P_read_codes := df_of X G c 16 16 rfl rfl fun _ _ _ _ _ _ us hl => match us, hl with | [_], _ => rfl
  have D_read_near : Df K mg "read_near" s_read_near P_read_near := df_of X G c 17 17 rfl rfl fun _ _ _ _ _ _ us hl => match us, hl with | [_], _ => rfl
  have D_read_steps : Df K mg "read_steps" s_read_steps P_read_steps := df_of X G c 18 18 rfl rfl fun _ _ _ _ _ _ us hl => match us, hl with | [_], _ => rfl
  have D_laid : Df K mg "laid" s_laid P_laid := df_of X G c 19 19 rfl rfl fun _ _ _ _ _ _ us hl => match us, hl with | [_, _], _ => rfl
  have D_least_form : Df K mg "least_form" s_least_form P_least_form := df_of X G c 20 20 rfl rfl fun _ _ _ _ _ _ us hl => match us, hl with | [_], _ => rfl
  have D_room : Df K mg "room" s_room P_room := df_of X G c 21 21 rfl rfl fun _ _ _ _ _ _ us hl => match us, hl with | [_], _ => rfl
  have D_values_of : Df K mg "values_of" s_values_of P_values_of := df_of X G c 22 22 rfl rfl fun _ _ _ _ _ _ us hl => match us, hl with | [_], _ => rfl
  have D_value_at : Df K mg "value_at" s_value_at P_value_at := df_of X G c 23 23 rfl rfl fun _ _ _ _ _ _ us hl => match us, hl with | [_, _], _ => rfl
  have D_cut : Df K mg "cut" s_cut P_cut := df_of X G c 24 24 rfl rfl fun _ _ _ _ _ _ us hl => match us, hl with | [_], _ => rfl
  have D_prices : Df K mg "prices" s_prices P_prices := df_of X G c 25 25 rfl rfl fun _ _ _ _ _ _ us hl => match us, hl with | [_], _ => rfl
  have D_bound : Df K mg "bound" s_bound P_bound := df_of X G c 26 26 rfl rfl fun _ _ _ _ _ _ us hl => match us, hl with | [_, _], _ => rfl
  have D__law_begun : Df K mg "_law_begun" s__law_begun P__law_begun := df_of X G c 27 27 rfl rfl fun _ _ _ _ _ _ us hl => match us, hl with | [_], _ => rfl
  have D__law_take : Df K mg "_law_take" s__law_take P__law_take := df_of X G c 28 28 rfl rfl fun _ _ _ _ _ _ us hl => match us, hl with | [_, _], _ => rfl
  have D__law_alike : Df K mg "_law_alike" s__law_alike P__law_alike := df_of X G c 29 29 rfl rfl fun _ _ _ _ _ _ us hl => match us, hl with | [_, _], _ => rfl
  have D__law_class : Df K mg "_law_class" s__law_class P__law_class := df_of X G c 30 30 rfl rfl fun _ _ _ _ _ _ us hl => match us, hl with | [_], _ => rfl
  have D__law_told : Df K mg "_law_told" s__law_told P__law_told := df_of X G c 31 31 rfl rfl fun _ _ _ _ _ _ us hl => match us, hl with | [_], _ => rfl
  have D__law_all : Df K mg "_law_all" s__law_all P__law_all := df_of X G c 32 32 rfl rfl fun _ _ _ _ _ _ us hl => match us, hl with | [_, _], _ => rfl
  have D__law_per : Df K mg "_law_per" s__law_per P__law_per := df_of X G c 33 33 rfl rfl fun _ _ _ _ _ _ us hl => match us, hl with | [_], _ => rfl
  have D__law_packed : Df K mg "_law_packed" s__law_packed P__law_packed := df_of X G c 34 34 rfl rfl fun _ _ _ _ _ _ us hl => match us, hl with | [_, _], _ => rfl
  have D__law_above : Df K mg "_law_above" s__law_above P__law_above := df_of X G c 35 35 rfl rfl fun _ _ _ _ _ _ us hl => match us, hl with | [_], _ => rfl
  have D__law_form : Df K mg "_law_form" s__law_form P__law_form := df_of X G c 36 36 rfl rfl fun _ _ _ _ _ _ us hl => match us, hl with | [_, _], _ => rfl
  have D__law_room : Df K mg "_law_room" s__law_room P__law_room := df_of X G c 37 37 rfl rfl fun _ _ _ _ _ _ us hl => match us, hl with | [_], _ => rfl
  have D__law_least : Df K mg "_law_least" s__law_least P__law_least := df_of X G c 38 38 rfl rfl fun _ _ _ _ _ _ us hl => match us, hl with | [_], _ => rfl
  have D__law_values : Df K mg "_law_values" s__law_values P__law_values := df_of X G c 39 39 rfl rfl fun _ _ _ _ _ _ us hl => match us, hl with | [_, _], _ => rfl
  have D__law_is : Df K mg "_law_is" s__law_is P__law_is := df_of X G c 40 40 rfl rfl fun _ _ _ _ _ _ us hl => match us, hl with | [_, _, _], _ => rfl
  have D__law_refuses : Df K mg "_law_refuses" s__law_refuses P__law_refuses := df_of X G c 41 41 rfl rfl fun _ _ _ _ _ _ us hl => match us, hl with | [_, _], _ => rfl
  obtain ⟨fd__law_is, F__law_is⟩ := c.def_ 40 (d := mkD "_law_is" s__law_is) rfl
  have hc__law_is : fd__law_is.code = .ref (He.cT K ("_law_is", none)).1 := by
    obtain ⟨oc, od, dV, kV, doc, pm, an, cdv, ct, osl, rfl, lk, hcd, _, _⟩ := F__law_is.ex
    obtain ⟨cc, ec⟩ := He.codeIn_ref hcd
    have e2 := He.codeOf_eq (p := ("_law_is", none)) lk ec
    show cdv = _
    rw [ec, ← e2]
    rfl
  have DT__law_is : DfT K mg "_law_is" s__law_is P__law_is (He.cT K ("_law_is", none)).1 := dfT_of F__law_is hc__law_is (He.glo_ok X G (c.fact 40 (f := .glo "_law_is") rfl)) (FunD.bindsN F__law_is fun _ _ _ _ _ _ us hl => match us, hl with | [_, _, _], _ => rfl)
  obtain ⟨fd__law_refuses, F__law_refuses⟩ := c.def_ 41 (d := mkD "_law_refuses" s__law_refuses) rfl
  have hc__law_refuses : fd__law_refuses.code = .ref (He.cT K ("_law_refuses", none)).1 := by
    obtain ⟨oc, od, dV, kV, doc, pm, an, cdv, ct, osl, rfl, lk, hcd, _, _⟩ := F__law_refuses.ex
    obtain ⟨cc, ec⟩ := He.codeIn_ref hcd
    have e2 := He.codeOf_eq (p := ("_law_refuses", none)) lk ec
    show cdv = _
    rw [ec, ← e2]
    rfl
  have DT__law_refuses : DfT K mg "_law_refuses" s__law_refuses P__law_refuses (He.cT K ("_law_refuses", none)).1 := dfT_of F__law_refuses hc__law_refuses (He.glo_ok X G (c.fact 41 (f := .glo "_law_refuses") rfl)) (FunD.bindsN F__law_refuses fun _ _ _ _ _ _ us hl => match us, hl with | [_, _], _ => rfl)
  have K_MAKERS := tab_keys cx.t 0 rfl
  have K_READERS := tab_keys cx.t 1 rfl
  have hex := cx.more
  obtain ⟨hex0, hex⟩ := Bool.and_eq_true_iff.mp hex
  obtain ⟨hex1, hex⟩ := Bool.and_eq_true_iff.mp hex
  obtain ⟨hexE, hex⟩ := Bool.and_eq_true_iff.mp hex
  obtain ⟨hexB, hex⟩ := Bool.and_eq_true_iff.mp hex
  obtain ⟨hexP_BadValues, hex⟩ := Bool.and_eq_true_iff.mp hex
  have KS : Kinds K mg (fun i => He.ga K (cnm i)) (He.ga K "ColumnError") := kinds_of hex (fun i hi => by
    match i, hi with
    | 0, _ => exact He.glo_ok X G (c.fact 45 (f := .glo "BadNumber") rfl)
    | 1, _ => exact He.glo_ok X G (c.fact 46 (f := .glo "BadValues") rfl)
    | 2, _ => exact He.glo_ok X G (c.fact 47 (f := .glo "NoForm") rfl)
    | 3, _ => exact He.glo_ok X G (c.fact 48 (f := .glo "BadPrices") rfl)
    | 4, _ => exact He.glo_ok X G (c.fact 49 (f := .glo "BadKinds") rfl)
    | 5, _ => exact He.glo_ok X G (c.fact 50 (f := .glo "BadRows") rfl)
    | 6, _ => exact He.glo_ok X G (c.fact 51 (f := .glo "BadCondition") rfl)
    | 7, _ => exact He.glo_ok X G (c.fact 52 (f := .glo "BadColumn") rfl)
    | 8, _ => exact He.glo_ok X G (c.fact 53 (f := .glo "BadHeap") rfl)
    | 9, _ => exact He.glo_ok X G (c.fact 54 (f := .glo "TooMany") rfl)
    | 10, _ => exact He.glo_ok X G (c.fact 55 (f := .glo "BadBlock") rfl)
    | 11, _ => exact He.glo_ok X G (c.fact 56 (f := .glo "Stopped") rfl)
    | 12, _ => exact He.glo_ok X G (c.fact 57 (f := .glo "BadText") rfl)
    | n + 13, h => exact absurd h (by omega)) (He.glo_ok X G (c.fact 58 (f := .glo "ColumnError") rfl))
  have XB : ExcB K mg (He.ga K "ColumnError") := excBB_ok hexB (He.glo_ok X G (c.fact 58 (f := .glo "ColumnError") rfl))
  have XP_BadValues : ExcP K mg "BadValues" s_BadValues (He.ga K "BadValues") := by
    obtain ⟨o1, o2⟩ := excPB_ok hexP_BadValues
    obtain ⟨fI, FI⟩ := c.def_ 43 rfl
    have mI := He.meth_ok (c.fact 83 (f := .meth "BadValues" "__init__") rfl)
    exact ⟨He.glo_ok X G (c.fact 46 (f := .glo "BadValues") rfl), o1, o2, _, fI, FI, FunD.bindsN FI fun _ _ _ _ _ _ us hl => match us, hl with | [_, _], _ => rfl, mI.at_, beq_iff_eq.mp mI.fn⟩
  have X_BadNumber : Exc1 K mg "BadNumber" (He.ga K "BadNumber") := by
    obtain ⟨x1, x2, x3, x4⟩ := He.exc_ok (c.fact 80 (f := .exc "BadNumber") rfl)
    exact ⟨He.glo_ok X G (c.fact 45 (f := .glo "BadNumber") rfl), x1, x2, x3, x4⟩
  have X_NoForm : Exc1 K mg "NoForm" (He.ga K "NoForm") := by
    obtain ⟨x1, x2, x3, x4⟩ := He.exc_ok (c.fact 81 (f := .exc "NoForm") rfl)
    exact ⟨He.glo_ok X G (c.fact 47 (f := .glo "NoForm") rfl), x1, x2, x3, x4⟩
  have X_BadPrices : Exc1 K mg "BadPrices" (He.ga K "BadPrices") := by
    obtain ⟨x1, x2, x3, x4⟩ := He.exc_ok (c.fact 82 (f := .exc "BadPrices") rfl)
    exact ⟨He.glo_ok X G (c.fact 48 (f := .glo "BadPrices") rfl), x1, x2, x3, x4⟩
  have hexM := hex0
  have hexR := hex1
  obtain ⟨hN12, hE2⟩ := Bool.and_eq_true_iff.mp hexE
  obtain ⟨hN13, hE3⟩ := Bool.and_eq_true_iff.mp hE2
  obtain ⟨hN23, hNM⟩ := Bool.and_eq_true_iff.mp hE3
  have n12 := of_decide_eq_true hN12
  have n13 := of_decide_eq_true hN13
  have n23 := of_decide_eq_true hN23
  have hN : ∀ z ∈ oddN, PySem.W.nsIn K (He.ga K "MAKERS") z = some none := fun z hz => of_decide_eq_true (List.all_eq_true.mp hNM z hz)
  have all : ∀ b, Fn P w K mg b CX0 1 "check_values" P_check_values (spChV K) ∧ Fn P w K mg b CX0 1 "make_plain" P_make_plain (spMk K mkPlain) ∧ Fn P w K mg b CX0 1 "room" P_room (spRoom K) ∧ Makers P w K mg b (He.ga K "MAKERS") ∧ Readers P w K mg b (He.ga K "READERS") := fun b => by
    have G_per_cell : Fn P w K mg b CX0 1 "per_cell" P_per_cell spPer := ok_per_cell T D_per_cell
    have G_check_below : Fn P w K mg b CX0 1 "check_below" P_check_below (spChk K) := ok_check_below T D_check_below
    have G_cell_of : Fn P w K mg b CX0 1 "cell_of" P_cell_of (spCell K) := ok_cell_of T D_cell_of
    have G_numbers_in : Fn P w K mg b CX0 2 "numbers_in" P_numbers_in spNum := ok_numbers_in T D_numbers_in G_per_cell
    have G_packed : Fn P w K mg b CX0 2 "packed" P_packed (spPck K) := ok_packed T D_packed G_per_cell G_check_below G_cell_of
    have G_unpacked : Fn P w K mg b CX0 3 "unpacked" P_unpacked (spUnp K) := ok_unpacked T D_unpacked G_numbers_in
    have G_check_values : Fn P w K mg b CX0 1 "check_values" P_check_values (spChV K) := ok_check_values T D_check_values
    have G_make_plain : Fn P w K mg b CX0 1 "make_plain" P_make_plain (spMk K mkPlain) := ok_make_plain T D_make_plain
    have G_make_one : Fn P w K mg b CX0 1 "make_one" P_make_one (spMk K mkOne) := ok_make_one T D_make_one
    have G_packed_from : Fn P w K mg b CX0 3 "packed_from" P_packed_from (spPf K) := ok_packed_from T D_packed_from G_packed
    have G_unpacked_from : Fn P w K mg b CX0 4 "unpacked_from" P_unpacked_from (spUf K) := ok_unpacked_from T D_unpacked_from G_unpacked
    have G_make_codes : Fn P w K mg b CX0 3 "make_codes" P_make_codes (spMk K mkCodes) := ok_make_codes T D_make_codes G_packed
    have G_make_near : Fn P w K mg b CX0 4 "make_near" P_make_near (spMk K mkNear) := ok_make_near T D_make_near G_packed_from
    have G_make_steps : Fn P w K mg b CX0 4 "make_steps" P_make_steps (spMk K mkSteps) := ok_make_steps T D_make_steps G_packed_from
    have G_read_plain : Fn P w K mg b CX0 1 "read_plain" P_read_plain (spRd K isPlain) := ok_read_plain T D_read_plain
    have G_read_one : Fn P w K mg b CX0 1 "read_one" P_read_one (spRd K isOne) := ok_read_one T D_read_one
    have G_read_codes : Fn P w K mg b CX0 4 "read_codes" P_read_codes (spRd K isCodes) := ok_read_codes T D_read_codes G_unpacked
    have G_read_near : Fn P w K mg b CX0 5 "read_near" P_read_near (spRd K isNear) := ok_read_near T D_read_near G_unpacked_from
    have G_read_steps : Fn P w K mg b CX0 5 "read_steps" P_read_steps (spRd K isSteps) := ok_read_steps T D_read_steps G_unpacked_from
    have G_room : Fn P w K mg b CX0 1 "room" P_room (spRoom K) := ok_room T D_room
    have M : Makers P w K mg b (He.ga K "MAKERS") := ⟨He.glo_ok X G (c.fact 43 (f := .glo "MAKERS") rfl), K_MAKERS, fun i hi => by
      match i, hi with
      | 0, _ => exact ⟨_, held_of G_make_plain (He.glo_ok X G (c.fact 7 (f := .glo "make_plain") rfl)) (by decide), kdct_of K_MAKERS hexM (x := "plain") (y := "make_plain") (by simp [tab0])⟩
      | 1, _ => exact ⟨_, held_of G_make_one (He.glo_ok X G (c.fact 8 (f := .glo "make_one") rfl)) (by decide), kdct_of K_MAKERS hexM (x := "one") (y := "make_one") (by simp [tab0])⟩
      | 2, _ => exact ⟨_, held_of G_make_codes (He.glo_ok X G (c.fact 9 (f := .glo "make_codes") rfl)) (by decide), kdct_of K_MAKERS hexM (x := "codes") (y := "make_codes") (by simp [tab0])⟩
      | 3, _ => exact ⟨_, held_of G_make_near (He.glo_ok X G (c.fact 10 (f := .glo "make_near") rfl)) (by decide), kdct_of K_MAKERS hexM (x := "near") (y := "make_near") (by simp [tab0])⟩
      | 4, _ => exact ⟨_, held_of G_make_steps (He.glo_ok X G (c.fact 11 (f := .glo "make_steps") rfl)) (by decide), kdct_of K_MAKERS hexM (x := "steps") (y := "make_steps") (by simp [tab0])⟩
      | n + 5, h => exact absurd h (by omega)⟩
    have RR : Readers P w K mg b (He.ga K "READERS") := ⟨He.glo_ok X G (c.fact 44 (f := .glo "READERS") rfl), fun i hi => by
      match i, hi with
      | 0, _ => exact ⟨_, held_of G_read_plain (He.glo_ok X G (c.fact 14 (f := .glo "read_plain") rfl)) (by decide), kdct_of K_READERS hexR (x := "plain") (y := "read_plain") (by simp [tab1])⟩
      | 1, _ => exact ⟨_, held_of G_read_one (He.glo_ok X G (c.fact 15 (f := .glo "read_one") rfl)) (by decide), kdct_of K_READERS hexR (x := "one") (y := "read_one") (by simp [tab1])⟩
      | 2, _ => exact ⟨_, held_of G_read_codes (He.glo_ok X G (c.fact 16 (f := .glo "read_codes") rfl)) (by decide), kdct_of K_READERS hexR (x := "codes") (y := "read_codes") (by simp [tab1])⟩
      | 3, _ => exact ⟨_, held_of G_read_near (He.glo_ok X G (c.fact 17 (f := .glo "read_near") rfl)) (by decide), kdct_of K_READERS hexR (x := "near") (y := "read_near") (by simp [tab1])⟩
      | 4, _ => exact ⟨_, held_of G_read_steps (He.glo_ok X G (c.fact 18 (f := .glo "read_steps") rfl)) (by decide), kdct_of K_READERS hexR (x := "steps") (y := "read_steps") (by simp [tab1])⟩
      | n + 5, h => exact absurd h (by omega)⟩
    exact ⟨G_check_values, G_make_plain, G_room, M, RR⟩
  have T4 : Txt4 mg := ⟨He.free_ok X G (c.fact 77 rfl), He.free_ok X G (c.fact 78 rfl), He.free_ok X G (c.fact 76 rfl)⟩
  have TE : TxtE mg := ⟨He.free_ok X G (c.fact 79 rfl)⟩
  have G_vof : ∀ b, Fn P w K mg b CX0 6 "values_of" P_values_of (spVof K) := fun b => ok_values_of T (all b).2.2.2.2 D_values_of
  have X_chV : ∀ b, Fn P w K mg b (L2.CX P w) 3 "check_values" P_check_values (spChVX K (He.ga K "BadValues")) := fun b => ok_check_valuesX T XB XP_BadValues D_check_values
  have G_begun := ok_begun (P := P) (w := w) (K := K) (base := base) T D__law_begun
  have G_take := ok_take (P := P) (w := w) (K := K) (base := base) T D__law_take
  have G_values := ok_values (P := P) (w := w) (base := base) T D__law_values G_take
  have G_lper := ok_lper (P := P) (w := w) (K := K) (base := base) T D__law_per
  have G_lpacked := ok_lpacked T D__law_packed G_lper
  have G_labove := ok_labove T D__law_above G_lpacked
  have G_lform := ok_lform T D__law_form G_lpacked G_labove
  have G_lroom := ok_lroom (P := P) (w := w) (K := K) (base := base) T T4 D__law_room 3
  have G_lleast := ok_lleast T D__law_least G_lform G_lroom
  have G_alike := ok_alike (P := P) (w := w) (K := K) (base := base) T T4 D__law_alike 3
  have G_told : ∀ b, Fn P w K mg b CX0 9 "_law_told" P__law_told (spTold P w K mg 7 (fun i => He.ga K (cnm i)) b) := fun b => ok_toldB (k := 7) KS (ok_class T TE KS D__law_class) D__law_told
  have G_all : ∀ b, Fn P w K mg b CX0 10 "_law_all" P__law_all (spAll P w K mg 7 3 (fun i => He.ga K (cnm i)) b) := fun b => ok_allB (k := 7) (n := 3) (by decide) T (G_told b) (ok_alike T T4 D__law_alike 3) D__law_all
  have G_is := ok_is (cs := fun i => He.ga K (cnm i)) n12 n23 T DT__law_is TB__law_is G_all (G_vof base) (ok_value_at T D_value_at (G_vof base)) (fun b => ok_value_atX T X_BadNumber D_value_at (G_vof b)) (all base).2.2.1 G_lroom G_take G_alike
  have G_ref := ok_refuses (cs := fun i => He.ga K (cnm i)) n13 n23 hN T DT__law_refuses TB__law_refuses G_all (fun b => ok_laidV (all b).2.2.2.1 D_laid (X_chV b)) (fun b => ok_laidN (all b).2.2.2.1 X_NoForm D_laid) (fun b => ok_least_formV D_least_form (X_chV b)) (fun b => ok_cutV D_cut (X_chV b)) (fun b => ok_pricesV D_prices (X_chV b)) (fun b => ok_boundV D_bound (X_chV b)) G_take
  have G_best := ok_best T (all base).2.2.2.1 D_least_form (all base).1 (all base).2.1 (all base).2.2.1
  exact ok_law2 (cs := fun i => He.ga K (cnm i)) n12 n13 T F hcode_law TB_law G_told G_begun G_take G_values G_lform G_alike G_lleast G_is G_ref G_best (fun b => ok_laid T (all b).2.2.2.1 X_NoForm D_laid (all b).1)
end
end K3
open PySem PySem.W PySem.Calls PyProof.Rows
theorem PySem.Challenge.cw_codecolumns_k02_five_forms_holds : PySem.Challenge.rw_codecolumns_k02_five_forms.Holds := by
  w_on; o_law
  refine HandSHeadRun.head_any (r := OpenLaw.row PySem.Challenge.rw_codecolumns_k02_five_forms) (q := view (OpenLaw.row PySem.Challenge.rw_codecolumns_k02_five_forms).prog [72]) (H := K3.hk) (ob := K3.ob) (M := 9000) (loose := K3.looseL) (d := HandSHeadRun.topDef (OpenLaw.row PySem.Challenge.rw_codecolumns_k02_five_forms).prog 72) (kwd := []) K3.ob_eq
    (by kernel_rfl) (fun s => by kernel_rfl) K3.run (by kernel_rfl) (by kernel_rfl) (by kernel_rfl) (by rfl) (by first | assumption | decide +kernel) (by decide +kernel) ⟨rfl, rfl, rfl, rfl, rfl, by decide +kernel⟩ ?hw ?hc
  case hw => w_witness2
  case hc =>
    refine K3.walk_ofTE (l := PySem.Challenge.rw_codecolumns_k02_five_forms) (n := 63) (k := 12) (x := "_law_script") (CX := fun _ => L2.CX0) rfl (by decide) (by kernel_rfl) ⟨rfl, by decide, by decide⟩ ?F (fun _ _ _ _ _ z => z)
    intro w mg fa h Y G hmg0
    obtain ⟨K, KX, c⟩ := Y
    have hmg : mg ("law" : PySem.Str) = some (.ref fa) := by
      have e : (HandSHeadRun.topDef (OpenLaw.row PySem.Challenge.rw_codecolumns_k02_five_forms).prog 72).name = ("law" : PySem.Str) := by kernel_rfl
      rw [← e]
      exact hmg0
    obtain ⟨fd, hb, hF⟩ := K3.law_facts (P := (PySem.Challenge.rw_codecolumns_k02_five_forms).prog) (w := w) KX G hmg c
    refine ⟨K, KX, fd, K3.tfL.map (He.cT K), K3.spLaw2 K (K3.TL3 (He.cT K ("law", none)).2 (He.cT K ("_law_is", none)).2 (He.cT K ("_law_refuses", none)).2), fun p hp => ?_, fun p hp => ?_, fun p hp => ?_, hb, fun H a ns hl hbits hT hS => ?_, fun base kb nb TBs => hF base kb nb (TBs (He.cT K ("law", none)) (List.mem_map.mpr ⟨("law", none), by simp [K3.tfL], rfl⟩)) (TBs (He.cT K ("_law_is", none)) (List.mem_map.mpr ⟨("_law_is", none), by simp [K3.tfL], rfl⟩)) (TBs (He.cT K ("_law_refuses", none)) (List.mem_map.mpr ⟨("_law_refuses", none), by simp [K3.tfL], rfl⟩))⟩
    · obtain ⟨q, hq, e⟩ := List.mem_map.mp hp
      rw [← e]
      exact c.empty q hq
    · obtain ⟨q, hq, e⟩ := List.mem_map.mp hp
      rw [← e]
      exact c.out q hq
    · obtain ⟨q, hq, e⟩ := List.mem_map.mp hp
      rw [← e]
      exact codeHd_of_K KX (c.hd q hq)
    · exact ⟨a, ns, rfl, hS, hl, K3.tabs_start hT (fun q hq => by
        rcases K3.tl_in hq with rfl | rfl | rfl
        · exact ⟨He.cT K ("law", none), List.mem_map.mpr ⟨("law", none), by simp [K3.tfL], rfl⟩, rfl⟩
        · exact ⟨He.cT K ("_law_is", none), List.mem_map.mpr ⟨("_law_is", none), by simp [K3.tfL], rfl⟩, rfl⟩
        · exact ⟨He.cT K ("_law_refuses", none), List.mem_map.mpr ⟨("_law_refuses", none), by simp [K3.tfL], rfl⟩, rfl⟩), fun _ => rfl⟩
