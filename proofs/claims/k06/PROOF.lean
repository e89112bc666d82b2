import PyProof.Rows.All
import Wide.All
import OpenK.AllK
import Wide.FinOn
import HandS.ForMost
import HandS.Exc
import HandS.TryOnly
import HandS.ExcOwn
import HandS.WordsExc
import HandS.Defaults
import HandS.Style
import HandS.Strs
import HandS.SetFor
import HandS.SortInts
import HandS.IsInst
import HandS.CallLocal
import HandS.FStr
import HandS.Rev
import HandS.TupAny
import HandS.Walk
import HandS.HeadEnd
import HandS.HeadHook3
import PySem.Challenge.RW_codecolumns_k06_prices_judged
import KE.KEqSeq
import HandS.ReCall
import HandS.RaiseMore
import KE.DatumMoreOrd
import KE.DatumOrd
import KE.DataEq
import HandS.RevRange
import HandS.HotCalls
import HandS.Lambda
import HandS.EndTab
import HandS.HeadHook4
import KE.KExcIs
import HandS.ExcIs
import HandS.ExcField
import KE.Datum
import KE.DatumMore
import HandS.Head0
import HandS.Head1
import HandS.Head2
import HandS.HeadHook1
import HandS.HeadHook2
import HandS.More
set_option Elab.async false
set_option linter.all false
set_option maxRecDepth 100000
namespace K3
open PySem PySem.Spec PyProof.Rows L2
def top (i : Nat) : Stmt := PySem.Challenge.pw_codecolumns_k06_prices_judged.main.body.getD i (.Pass ⟨0, 0, 0, 0⟩)

/-- a def that keeps its promise, by its name -/
structure Fn (P : Program) (w : World) (K : PySem.W.Frag) (mg : Str → Option Value) (base : Heap) (CX : CXT) (k : Nat) (x : Str) (ps : List Str) (sp : Sp) : Prop where
  ex : ∃ (f : Addr) (fd : FuncData), FnOk P w K mg base CX k f fd ps sp ∧ mg x = some (.ref f) ∧ PySem.W.keepIn K (.ref f) = true ∧ Binds K fd ps []
/-- a def as it stands behind the top, by its name -/
structure Df (K : PySem.W.Frag) (mg : Str → Option Value) (x : Str) (st : Stmt) (ps : List Str) : Prop where
  ex : ∃ (f : Addr) (fd : FuncData), FunD K x x (defArgs st) (defBody st) (defScope st) [] [] f fd ∧ mg x = some (.ref f) ∧ Binds K fd ps []
section
variable {X : Cx} {CX : CXT} {k : Nat} {ps : List Str} {sp : Sp} {E : XK} {x : Str} {p pos : Pos} {e : Expr} {es : List Expr} {t : TA}
theorem pe_c (F : Fn X.prog X.w X.K X.mg X.base CX k x ps sp) (hr : Room k X.A) (hx : Passes CX X E) (ha : PA X (e :: es) t) (hg : Gl X x := by rfl) (hdb : (x == ("__debug__" : Str)) = false := by decide)
    (he : starEach (e :: es) X.env = (false, eval e X.env) :: starEach es X.env := by rfl) (hpl : (backTo pos (starEach es X.env)).any (·.1) = false := by rfl) : PE X (.Call (.Name x p) (e :: es) [] pos) (tCall sp [] E t) := by
  obtain ⟨f, fd, G, hm, hk, hb⟩ := F.ex
  exact pe_call G hr hg hm hk hb .nil hx ha hdb he hpl
theorem pe_gint {i : Int} (h : ∃ t, X.mg x = some (.int i t)) (hg : Gl X x := by rfl) (hd : (x == ("__debug__" : Str)) = false := by decide) : PE X (.Name x pos) (tC (.int i)) := by
  obtain ⟨t, h⟩ := h
  exact pe_glob hg h ⟨t, rfl⟩ hd
end
section
variable {P : Program} {w : World} {K : PySem.W.Frag} {mg : Str → Option Value} {base : Heap}
/-- THE RULE for a def that raises nothing -/
theorem Df.ok {x : Str} {st : Stmt} {N ps : List Str} {k : Nat} {sp : Sp} (D : Df K mg x st ps) (S : FnScope N ps (defScope st)) (len : ∀ vs H Q E, sp vs H Q E → vs.length = ps.length)
    (hbody : ∀ (f : Addr) (cdv : Value) (A : Around) (outer : List Env) (s : Shared) (H : Hp) (vs : List V) (Q : VK) (E : XK), Room k (A.deeper (envOfC x (defScope st) s.heap.objs.size f cdv)) → sp vs H Q E →
      ∃ t, PSs (cxOf CX0 P w K mg base N x (defScope st) f cdv A outer s H E).nox (defBody st) t ∧ t { nx := fun _ H' => Q .non H', rt := Q } (start N vs) H) : Fn P w K mg base CX0 (k + 1) x ps sp := by
  obtain ⟨f, fd, F, hm, hb⟩ := D.ex
  refine ⟨f, fd, F.ok S len fun cdv A outer s H vs Q E hr hsp => ?_, hm, F.kp, hb⟩
  obtain ⟨t, h, q⟩ := hbody f cdv A outer s H vs Q E hr hsp
  exact ⟨t, h.nox, q⟩
/-- .. for one that may raise -/
theorem Df.okX {x : Str} {st : Stmt} {N ps : List Str} {k : Nat} {sp : Sp} (D : Df K mg x st ps) (S : FnScope N ps (defScope st)) (len : ∀ vs H Q E, sp vs H Q E → vs.length = ps.length)
    (hbody : ∀ (f : Addr) (cdv : Value) (A : Around) (outer : List Env) (s : Shared) (H : Hp) (vs : List V) (Q : VK) (E : XK), Room k (A.deeper (envOfC x (defScope st) s.heap.objs.size f cdv)) → sp vs H Q E →
      ∃ t, PSs (cxOf (L2.CX P w) P w K mg base N x (defScope st) f cdv A outer s H E) (defBody st) t ∧ t { nx := fun _ H' => Q .non H', rt := Q } (start N vs) H) : Fn P w K mg base (L2.CX P w) (k + 1) x ps sp := by
  obtain ⟨f, fd, F, hm, hb⟩ := D.ex
  exact ⟨f, fd, F.ok S len fun cdv A outer s H vs Q E hr hsp => hbody f cdv A outer s H vs Q E hr hsp, hm, F.kp, hb⟩
end
/-- what the top has written besides its defs -/
structure Txt (mg : Str → Option Value) : Prop where
  c_LEAST_BASE : ∃ t, mg "LEAST_BASE" = some (.int 2 t)
  c_CELL_SIZE : ∃ t, mg "CELL_SIZE" = some (.int 10000 t)
  c_MOST_VALUES : ∃ t, mg "MOST_VALUES" = some (.int 32 t)
  c_MOST : ∃ t, mg "MOST" = some (.int 9999 t)
  b_len : mg "len" = none
  b_tuple : mg "tuple" = none
  b_list : mg "list" = none
  b_int : mg "int" = none
  b_range : mg "range" = none
  b_enumerate : mg "enumerate" = none
  b_reversed : mg "reversed" = none
  b_min : mg "min" = none
  b_max : mg "max" = none
  b_set : mg "set" = none
  b_sorted : mg "sorted" = none
  b_isinstance : mg "isinstance" = none
/-! ### heaps -/
theorem _root_.L2.Same.upd {H : Hp} {p : Addr} {o : HO} (h : H p = none) : Same H (upd H p o) := fun b u e => by rw [upd_ne (ne_of_none e h)]; exact e
theorem _root_.L2.Same.upd' {H H1 : Hp} {p : Addr} {o : HO} (s : Same H H1) (h : H1 p = none) : Same H (L2.upd H1 p o) := s.trans (Same.upd h)
theorem _root_.L2.Same.seqT {K : PySem.W.Frag} {H H' : Hp} {a : Addr} {xs : List V} (e : Same H H') (h : SqT K H a xs) : SqT K H' a xs := by
  rcases h with (h | ⟨o, h⟩) | h
  · exact .inl (.inl (e _ _ h))
  · exact .inl (.inr ⟨o, e _ _ h⟩)
  · exact .inr h
end K3

set_option linter.all false
/-! K3M: numbers packed in cells, in plain Lean -/
namespace K3
/-- how many numbers below b a cell holds: f turns left, r the reach -/
def perGo (b : Int) : Nat → Int → Nat
  | 0, _ => 0
  | f + 1, r => if r ≤ 10000 then 1 + perGo b f (r * b) else 0
def perC (b : Int) : Nat := perGo b 14 b
theorem perC_pos {b : Int} (h : b ≤ 10000) : 1 ≤ perC b := by
  show 1 ≤ (if b ≤ 10000 then 1 + perGo b 13 (b * b) else 0)
  rw [if_pos h]; omega
theorem perGo_le (b : Int) : ∀ (f : Nat) (r : Int), perGo b f r ≤ f
  | 0, _ => Nat.le_refl 0
  | f + 1, r => by
    have ih := perGo_le b f (r * b)
    show (if r ≤ 10000 then 1 + perGo b f (r * b) else 0) ≤ f + 1
    split <;> omega
theorem perC_le (b : Int) : perC b ≤ 14 := perGo_le b 14 b
/-- what the while keeps: m counted, r reached, f turns left -/
structure PerAt (b : Int) (m : Nat) (r : Int) (f : Nat) : Prop where
  sum : perC b = m + perGo b f r
  big : (2 : Int) ^ (15 - f) ≤ r
  few : f ≤ 14
theorem PerAt.start {b : Int} (h : 2 ≤ b) : PerAt b 0 b 14 := ⟨by rw [Nat.zero_add]; rfl, by simpa using h, Nat.le_refl _⟩
theorem PerAt.pos {b : Int} {m : Nat} {r : Int} {f : Nat} (h : PerAt b m r f) : 0 < r := Int.lt_of_lt_of_le (Int.pow_pos (by decide)) h.big
theorem PerAt.turn {b : Int} {m : Nat} {r : Int} {f : Nat} (h : PerAt b m r f) (hb : 2 ≤ b) (hr : r ≤ 10000) : ∃ f', PerAt b (m + 1) (r * b) f' := by
  cases f with
  | zero =>
    have h1 := h.big
    have h2 : (2 : Int) ^ (15 - 0) = 32768 := by decide
    omega
  | succ f =>
    refine ⟨f, ?_, ?_, by have := h.few; omega⟩
    · have h1 := h.sum
      have h2 : perGo b (f + 1) r = 1 + perGo b f (r * b) := if_pos hr
      rw [h1, h2]; omega
    · have h1 := h.big
      have h3 := h.few
      have e : 15 - f = (15 - (f + 1)) + 1 := by omega
      rw [e, Int.pow_succ]
      have h0 : (0 : Int) ≤ 2 ^ (15 - (f + 1)) := Int.le_of_lt (Int.pow_pos (by decide))
      exact Int.mul_le_mul h1 hb (by decide) (Int.le_trans h0 h1)
theorem PerAt.done {b : Int} {m : Nat} {r : Int} {f : Nat} (h : PerAt b m r f) (hr : ¬ r ≤ 10000) : perC b = m := by
  rw [h.sum]
  cases f with
  | zero => rfl
  | succ f =>
    show m + (if r ≤ 10000 then 1 + perGo b f (r * b) else 0) = m
    rw [if_neg hr]; rfl
/-- a cell of numbers, the first counts as it is -/
def val (b : Int) : List Int → Int
  | [] => 0
  | n :: r => val b r * b + n
def digits (b : Int) : Nat → Int → List Int
  | 0, _ => []
  | k + 1, c => (c % b) :: digits b k (c / b)
def restOf (b : Int) : Nat → Int → Int
  | 0, c => c
  | k + 1, c => restOf b k (c / b)
theorem restOf_succ (b : Int) : ∀ (k : Nat) (c : Int), restOf b (k + 1) c = restOf b k c / b
  | 0, _ => rfl
  | k + 1, c => restOf_succ b k (c / b)
theorem digits_succ (b : Int) : ∀ (k : Nat) (c : Int), digits b (k + 1) c = digits b k c ++ [restOf b k c % b]
  | 0, _ => rfl
  | k + 1, c => by
    show (c % b) :: digits b (k + 1) (c / b) = (c % b) :: (digits b k (c / b) ++ [restOf b k (c / b) % b])
    rw [digits_succ b k (c / b)]
theorem digits_length (b : Int) : ∀ (k : Nat) (c : Int), (digits b k c).length = k
  | 0, _ => rfl
  | k + 1, c => by
    show (digits b k (c / b)).length + 1 = k + 1
    rw [digits_length b k]
theorem val_digit {b n v : Int} (hn : 0 ≤ n) (hb : n < b) : (v * b + n) % b = n ∧ (v * b + n) / b = v := by
  have h0 : b ≠ 0 := by omega
  constructor
  · rw [Int.add_comm, Int.add_mul_emod_self_right]
    exact Int.emod_eq_of_lt hn hb
  · rw [Int.add_comm, Int.add_mul_ediv_right _ _ h0, Int.ediv_eq_zero_of_lt hn hb, Int.zero_add]
theorem digits_zero (b : Int) : ∀ k, digits b k 0 = List.replicate k 0
  | 0 => rfl
  | k + 1 => by
    show (0 % b) :: digits b k (0 / b) = List.replicate (k + 1) 0
    rw [Int.zero_emod, Int.zero_ediv, digits_zero b k]; rfl
theorem digits_val {b : Int} : ∀ (ns : List Int) (k : Nat), (∀ n ∈ ns, 0 ≤ n ∧ n < b) → ns.length ≤ k → digits b k (val b ns) = ns ++ List.replicate (k - ns.length) 0
  | [], k, _, _ => by rw [List.nil_append, List.length_nil, Nat.sub_zero]; exact digits_zero b k
  | n :: r, 0, _, h => absurd h (by simp)
  | n :: r, k + 1, hb, hl => by
    obtain ⟨h1, h2⟩ := val_digit (v := val b r) (hb n (List.mem_cons_self ..)).1 (hb n (List.mem_cons_self ..)).2
    show ((val b r * b + n) % b) :: digits b k ((val b r * b + n) / b) = _
    rw [h1, h2, digits_val r k (fun m hm => hb m (List.mem_cons_of_mem _ hm)) (by simpa using hl)]
    simp
/-- the cells, k numbers each -/
def pack (b : Int) (k : Nat) : Nat → List Int → List Int
  | 0, _ => []
  | _ + 1, [] => []
  | f + 1, n :: r => val b ((n :: r).take k) :: pack b k f ((n :: r).drop k)
def packed (b : Int) (ns : List Int) : List Int := pack b (perC b) ns.length ns
theorem pack_nil (b : Int) (k : Nat) : ∀ f, pack b k f [] = []
  | 0 => rfl
  | _ + 1 => rfl
/-- the i-th cell -/
theorem pack_get (b : Int) {k : Nat} (hk : 1 ≤ k) : ∀ (f : Nat) (ns : List Int) (i : Nat), ns.length ≤ f → (pack b k f ns)[i]? = if i * k < ns.length then some (val b ((ns.drop (i * k)).take k)) else none
  | 0, ns, i, h => by
    have e : ns = [] := List.length_eq_zero_iff.mp (by omega)
    subst e
    simp [pack]
  | f + 1, [], i, h => by simp [pack]
  | f + 1, n :: r, 0, h => by simp [pack]
  | f + 1, n :: r, i + 1, h => by
    show (pack b k f ((n :: r).drop k))[i]? = _
    have hl : ((n :: r).drop k).length ≤ f := by rw [List.length_drop]; simp at h ⊢; omega
    rw [pack_get b hk f _ i hl, List.length_drop, List.drop_drop]
    have e : k + i * k = (i + 1) * k := by rw [Nat.add_mul, Nat.one_mul, Nat.add_comm]
    rw [e]
    by_cases c : (i + 1) * k < (n :: r).length
    · rw [if_pos c, if_pos (by omega)]
    · rw [if_neg c, if_neg (by omega)]
theorem pack_length (b c : Int) (k : Nat) : ∀ (f : Nat) (ns ms : List Int), ns.length = ms.length → (pack b k f ns).length = (pack c k f ms).length
  | 0, _, _, _ => rfl
  | _ + 1, [], [], _ => rfl
  | _ + 1, [], _ :: _, h => by simp at h
  | _ + 1, _ :: _, [], h => by simp at h
  | f + 1, n :: r, m :: q, h => by
    show (pack b k f ((n :: r).drop k)).length + 1 = (pack c k f ((m :: q).drop k)).length + 1
    rw [pack_length b c k f ((n :: r).drop k) ((m :: q).drop k) (by rw [List.length_drop, List.length_drop, h])]
theorem pack_le (b : Int) {k : Nat} (hk : 1 ≤ k) : ∀ (f : Nat) (ns : List Int), (pack b k f ns).length ≤ ns.length
  | 0, _ => Nat.zero_le _
  | _ + 1, [] => Nat.le_refl _
  | f + 1, n :: r => by
    have ih := pack_le b hk f ((n :: r).drop k)
    rw [List.length_drop] at ih
    show (pack b k f ((n :: r).drop k)).length + 1 ≤ (n :: r).length
    simp at ih ⊢; omega
/-- read again -/
theorem unpack {b : Int} {k : Nat} (hk : 1 ≤ k) : ∀ (f : Nat) (ns : List Int), ns.length ≤ f → (∀ n ∈ ns, 0 ≤ n ∧ n < b) → ∃ z, (pack b k f ns).flatMap (digits b k) = ns ++ List.replicate z 0
  | 0, ns, h, _ => by
    have e : ns = [] := List.length_eq_zero_iff.mp (by omega)
    subst e
    exact ⟨0, rfl⟩
  | f + 1, [], _, _ => ⟨0, rfl⟩
  | f + 1, n :: r, h, hb => by
    have hl : ((n :: r).drop k).length ≤ f := by rw [List.length_drop]; simp at h ⊢; omega
    obtain ⟨z, e⟩ := unpack hk f ((n :: r).drop k) hl fun m hm => hb m (List.mem_of_mem_drop hm)
    show ∃ z, (val b ((n :: r).take k) :: pack b k f ((n :: r).drop k)).flatMap (digits b k) = _
    rw [List.flatMap_cons, e, digits_val _ k (fun m hm => hb m (List.mem_of_mem_take hm)) (by rw [List.length_take]; omega)]
    by_cases c : k ≤ (n :: r).length
    · refine ⟨z, ?_⟩
      rw [List.length_take, Nat.min_eq_left c, Nat.sub_self, List.replicate_zero, List.append_nil, ← List.append_assoc, List.take_append_drop]
    · have c' : (n :: r).length ≤ k := by omega
      rw [List.take_of_length_le c', List.drop_of_length_le c', List.nil_append, List.append_assoc, List.replicate_append_replicate]
      exact ⟨_, rfl⟩
theorem unpacked_packed {b : Int} (hb : b ≤ 10000) (ns : List Int) (h : ∀ n ∈ ns, 0 ≤ n ∧ n < b) : ((packed b ns).flatMap (digits b (perC b))).take ns.length = ns := by
  obtain ⟨z, e⟩ := unpack (perC_pos hb) ns.length ns (Nat.le_refl _) h
  show ((pack b (perC b) ns.length ns).flatMap (digits b (perC b))).take ns.length = ns
  rw [e, List.take_left']
  rfl
end K3
namespace K3
theorem val_step (b : Int) {ns : List Int} {i : Nat} {x : Int} (hi : i < ns.length) (h : ns[ns.length - 1 - i]? = some x) : val b (ns.drop (ns.length - (i + 1))) = val b (ns.drop (ns.length - i)) * b + x := by
  have e : ns.length - 1 - i = ns.length - (i + 1) := by omega
  rw [e] at h
  obtain ⟨hl, hx⟩ := List.getElem?_eq_some_iff.mp h
  rw [List.drop_eq_getElem_cons hl, hx]
  have e2 : ns.length - (i + 1) + 1 = ns.length - i := by omega
  rw [e2]
  rfl
/-- how many cells -/
def cells (k n : Nat) : Nat := (n + k - 1) / k
theorem cells_lt {k n i : Nat} (hk : 1 ≤ k) : i < cells k n ↔ i * k < n := by
  unfold cells
  constructor
  · intro h
    have h1 : (i + 1) * k ≤ n + k - 1 := Nat.le_trans (Nat.mul_le_mul_right k h) (Nat.div_mul_le_self _ _)
    rw [Nat.add_mul, Nat.one_mul] at h1
    omega
  · intro h
    refine (Nat.le_div_iff_mul_le (by omega)).mpr ?_
    rw [Nat.succ_mul]
    omega
theorem packed_eq {b : Int} (hb : b ≤ 10000) (ns : List Int) : (List.range (cells (perC b) ns.length)).map (fun i => val b ((ns.drop (i * perC b)).take (perC b))) = packed b ns := by
  have hk := perC_pos hb
  apply List.ext_getElem?
  intro i
  unfold packed
  rw [pack_get b hk _ _ _ (Nat.le_refl _), List.getElem?_map]
  by_cases c : i < cells (perC b) ns.length
  · rw [if_pos ((cells_lt hk).mp c), List.getElem?_range c]
    rfl
  · rw [if_neg (fun z => c ((cells_lt hk).mpr z)), List.getElem?_eq_none (by rw [List.length_range]; omega)]
    rfl
theorem cells_le {k n : Nat} (hk : 1 ≤ k) : cells k n ≤ n := by
  rcases Nat.lt_or_ge n (cells k n) with h | h
  · have := (cells_lt hk).mp h
    have h2 : n * 1 ≤ n * k := Nat.mul_le_mul_left n hk
    omega
  · exact h
end K3
namespace K3
theorem flat_length (b : Int) (k : Nat) : ∀ cs : List Int, (cs.flatMap (digits b k)).length = cs.length * k
  | [] => by simp
  | c :: r => by
    rw [List.flatMap_cons, List.length_append, digits_length, flat_length b k r, List.length_cons, Nat.succ_mul, Nat.add_comm]
end K3

set_option Elab.async false
set_option linter.all false
set_option maxRecDepth 100000
set_option maxHeartbeats 4000000
namespace K3
open PySem PySem.Spec PyProof.Rows L2
theorem map_at {α : Type} {f : α → V} {l : List α} {i : Nat} {y : V} (h : (l.map f)[i]? = some y) : ∃ z, l[i]? = some z ∧ y = f z := by
  rw [List.getElem?_map] at h
  cases e : l[i]? with
  | none =>
    rw [e] at h
    cases h
  | some z =>
    rw [e] at h
    exact ⟨z, rfl, (Option.some.inj h).symm⟩
theorem take_more {α : Type} : ∀ {l : List α} {i : Nat} {x : α}, l[i]? = some x → l.take (i + 1) = l.take i ++ [x]
  | [], i, x, h => by simp at h
  | a :: l, 0, x, h => by
    obtain rfl : a = x := Option.some.inj h
    rfl
  | a :: l, i + 1, x, h => by
    rw [List.take_succ_cons, take_more (l := l) (i := i) (x := x) h, List.take_succ_cons]
    rfl
theorem _root_.L2.Same.put {H H1 : Hp} {p : Addr} {o : HO} (s : Same H H1) (n : H p = none) : Same H (L2.upd H1 p o) := fun b u e => by
  rw [upd_ne (ne_of_none e n)]
  exact s b u e
theorem cutV_take (xs : List V) (m : Nat) : cutV xs none (some (m : Int)) = xs.take m := by
  unfold cutV
  rw [HT.sIx_none, HT.sIx_nat, Nat.sub_zero, List.drop_zero]
  by_cases c : m ≤ xs.length
  · rw [Nat.min_eq_left c]
  · rw [Nat.min_eq_right (by omega), List.take_length, List.take_of_length_le (by omega)]
theorem cutV_part (xs : List V) (i k : Nat) : cutV xs (some (i : Int)) (some ((i : Int) + (k : Int))) = (xs.drop i).take k := by
  have e : (i : Int) + (k : Int) = ((i + k : Nat) : Int) := by omega
  unfold cutV
  rw [e, HT.sIx_nat, HT.sIx_nat]
  by_cases c : i ≤ xs.length
  · rw [Nat.min_eq_left c]
    by_cases d : i + k ≤ xs.length
    · rw [Nat.min_eq_left d, Nat.add_sub_cancel_left]
    · rw [Nat.min_eq_right (by omega), List.take_of_length_le (by rw [List.length_drop]; omega), List.take_of_length_le (by rw [List.length_drop]; omega)]
  · rw [Nat.min_eq_right (by omega), Nat.min_eq_right (by omega), Nat.sub_self, List.take_zero, List.drop_of_length_le (by omega), List.take_nil]
theorem rgC_up {n k : Nat} (hk : 1 ≤ k) (hk2 : k < 1000000) (hn : n < 1000000) : RgC 0 (n : Int) (k : Int) (cells k n) := by
  have e : Builtin.Range.rangeSize 0 (n : Int) (k : Int) = ((cells k n : Nat) : Int) := by
    rw [rangeSize_pos (by omega) (by omega)]
    unfold cells
    rw [Int.natCast_ediv]
    congr 1
    omega
  have hc := cells_le (n := n) hk
  refine ⟨by omega, by omega, ?_, e⟩
  unfold Builtin.Range.small
  rw [e]
  simp only [Builtin.Range.rangeFitsLong, Bool.and_eq_true, Bool.or_eq_true, decide_eq_true_eq, beq_iff_eq, show ((k : Int) > 0) by omega, if_true]
  omega
/-- a comprehension of one name without an if, over any walk -/
theorem lc_all {J : It} {n : Nat} {G : Hp → Prop} {Y : Nat → Hp → V → Hp → Prop} (w : Walk J n G Y) {j : Nat} {te : TE} {σ : L2.St} {H1 : Hp} {D : Addr} {Qd : Hp → Prop} (Pv : Nat → Hp → Prop) (h0 : Pv 0 (L2.upd H1 D (.lst []))) (hG : ∀ i H, i ≤ n → Pv i H → G H)
    (hs : ∀ i x H H', i < n → Pv i H → Y i H x H' → te (σ.set j (some x)) H' fun y H4 => ∃ acc, H4 D = some (.lst acc) ∧ acc.length < sizeLine ∧ Pv (i + 1) (L2.upd H4 D (.lst (acc ++ [y])))) (hd : ∀ H, Pv n H → Qd H) :
    ∃ W : Nat → Nat → Hp → Prop, (∃ m, W 0 m (L2.upd H1 D (.lst []))) ∧ ∀ i m H, W i m H →
      (J.stop i H ∧ Qd H) ∨ (J.go i H ∧ ∃ Nx : Hp → Prop, (∀ H', Nx H' → ∃ m', m' < m ∧ W (i + 1) m' H') ∧ ∀ x H', J.yld i H x H' → gName j x (wipe σ [j]) H' fun σ2 H2 => wipe σ2 [j] = wipe σ [j] ∧ tYes σ2 H2 fun b H3 =>
        if b = true then te σ2 H3 fun y H4 => ∃ acc, H4 D = some (.lst acc) ∧ acc.length < sizeLine ∧ Nx (L2.upd H4 D (.lst (acc ++ [y]))) else Nx H3) := by
  refine lc_it w Pv h0 hG (fun i x H H' hi p y => ?_) hd
  have q := hs i x H H' hi p y
  have e : (wipe σ [j]).set j (some x) = σ.set j (some x) := by
    show (σ.set j none).set j (some x) = σ.set j (some x)
    rw [List.set_set]
  refine ⟨?_, ?_⟩
  · show ((σ.set j none).set j (some x)).set j none = σ.set j none
    rw [List.set_set, List.set_set]
  · show (if true = true then te ((wipe σ [j]).set j (some x)) H' (fun y H4 => ∃ acc, H4 D = some (.lst acc) ∧ acc.length < sizeLine ∧ Pv (i + 1) (L2.upd H4 D (.lst (acc ++ [y])))) else Pv (i + 1) H')
    rw [e, if_pos rfl]
    exact q
theorem sl_listK {X : Cx} {K : PySem.W.Frag} (e : X.K = K) : SlR X (rSlL K) := by
  subst e
  exact sl_list
section
variable {P : Program} {w : World} {K : PySem.W.Frag} {mg : Str → Option Value} {base : Heap}
abbrev s_per_cell : Stmt := top 18
abbrev N_per_cell : List Str := ["base", "many", "reach"]
abbrev P_per_cell : List Str := ["base"]
theorem sc_per_cell : FnScope N_per_cell P_per_cell (defScope s_per_cell) := ⟨rfl, rfl, rfl, by decide +kernel, rfl, by decide +kernel, by decide +kernel⟩
def spPer : Sp := fun vs H Q _ => ∃ b : Int, vs = [.int b] ∧ 2 ≤ b ∧ b ≤ 10000 ∧ Q (.int (perC b)) H
def reach : L2.St → Nat
  | [_, _, some (.int r)] => (10001 - r).toNat
  | _ => 0
theorem ok_per_cell (T : Txt mg) (D : Df K mg "per_cell" s_per_cell P_per_cell) : Fn P w K mg base CX0 1 "per_cell" P_per_cell spPer := by
  refine D.ok sc_per_cell (fun vs H Q E h => ?_) (fun f cdv A outer s H vs Q E hr h => ?_)
  · obtain ⟨b, rfl, _⟩ := h
    rfl
  · obtain ⟨b, rfl, h2, h1, k⟩ := h
    have nd := sc_per_cell.nd
    refine ⟨_, (pss_cons (ps_if (PW.pt (pw_or (pt_cmpR op_lt (pv 0) (pe_gint T.c_LEAST_BASE) (nomark _)) (pw_or1 (pt_cmpR op_gt (pv 0) (pe_gint T.c_CELL_SIZE) (nomark _)))))
  (pss_one ps_never)
  pss_nil)
  (pss_cons (ps_set (i := 1) nd rfl (by first | exact Or.inl rfl | exact Or.inr rfl) pe_int)
  (pss_cons (ps_set (i := 2) nd rfl (by first | exact Or.inl rfl | exact Or.inr rfl) (pv 0))
  (pss_cons (ps_while PassesOwn.never (pt_cmpR op_le (pv 2) (pe_gint T.c_CELL_SIZE) (nomark _))
  (pss_cons (ps_aug (i := 1) nd rfl (by first | exact Or.inl rfl | exact Or.inr rfl) pe_int ip_add)
  (pss_one (ps_aug (i := 2) nd rfl (by first | exact Or.inl rfl | exact Or.inr rfl) (pv 0) iop_mul))))
  (pss_one (ps_ret (pv 1))))))), ?_⟩
    refine ⟨_, rfl, _, _, rfl, rfl, _, rfl, ?_⟩
    refine ite2 (fun c => absurd (of_decide_eq_true c) (by omega)) (fun _ => ?_)
    refine ⟨_, rfl, _, _, rfl, rfl, _, rfl, ?_⟩
    refine ite2 (fun c => absurd (of_decide_eq_true c) (by omega)) (fun _ => ?_)
    refine ⟨_, rfl, ?_⟩
    refine while_by (fun σ H' => ∃ (m : Nat) (r : Int) (f : Nat), σ = [some (.int b), some (.int m), some (.int r)] ∧ PerAt b m r f ∧ H' = H) (fun σ _ => reach σ) ⟨0, b, 14, rfl, .start h2, rfl⟩ ?_ (fun σ H Q Q' im h => ?_)
    · rintro σ H' ⟨m, r, f, rfl, A, rfl⟩
      refine ⟨_, rfl, _, _, rfl, rfl, _, rfl, ?_⟩
      refine ite2 (fun c => ?_) (fun c => ?_)
      · have c' : r ≤ 10000 := of_decide_eq_true c
        obtain ⟨f', A'⟩ := A.turn h2 c'
        refine ⟨_, rfl, _, _, rfl, rfl, _, rfl, _, rfl, _, _, rfl, rfl, .inr (by constructor <;> omega), ?_⟩
        have p1 := A.pos
        have p2 := A'.pos
        have p3 : r * 2 ≤ r * b := Int.mul_le_mul_of_nonneg_left h2 (by omega)
        refine ⟨⟨m + 1, r * b, f', rfl, A', rfl⟩, ?_⟩
        show (10001 - r * b).toNat < (10001 - r).toNat
        omega
      · have c' : ¬ r ≤ 10000 := fun z => c (decide_eq_true z)
        refine ⟨_, rfl, ?_⟩
        rw [A.done c'] at k
        exact k
    · obtain ⟨v, e, i, j, e1, e2, kk, e3, q⟩ := h
      exact ⟨v, e, i, j, e1, e2, kk, e3, im _ _ q⟩

abbrev s_check_below : Stmt := top 20
abbrev N_check_below : List Str := ["limit", "numbers", "place", "number"]
abbrev P_check_below : List Str := ["limit", "numbers"]
theorem sc_check_below : FnScope N_check_below P_check_below (defScope s_check_below) := ⟨rfl, rfl, rfl, by decide +kernel, rfl, by decide +kernel, by decide +kernel⟩
def spChk (K : PySem.W.Frag) : Sp := fun vs H Q _ => ∃ (b : Int) (a : Addr) (ns : List Int), vs = [.int b, .ref a] ∧ SqL K H a (ns.map V.int) ∧ (∀ n ∈ ns, 0 ≤ n ∧ n < b) ∧ ∀ H', Same H H' → Q .non H'
theorem ok_check_below (T : Txt mg) (D : Df K mg "check_below" s_check_below P_check_below) : Fn P w K mg base CX0 1 "check_below" P_check_below (spChk K) := by
  refine D.ok sc_check_below (fun vs H Q E h => ?_) (fun f cdv A outer s H vs Q E hr h => ?_)
  · obtain ⟨b, a, ns, rfl, _⟩ := h
    rfl
  · obtain ⟨b, a, ns, rfl, hS, hb, k⟩ := h
    have nd := sc_check_below.nd
    refine ⟨_, (pss_one (ps_for PassesOwn.never rfl (pi_enum (by rfl) T.b_enumerate (pa_cons (pv 1) pa_nil)) (pg_tup (by rfl) (pgs_cons (pg_name (i := 2) nd rfl (by first | exact Or.inl rfl | exact Or.inr rfl)) (pgs_cons (pg_name (i := 3) nd rfl (by first | exact Or.inl rfl | exact Or.inr rfl)) pgs_nil)))
  (pss_one (ps_if (PW.pt (pw_or (pt_cmpR op_lt (pv 3) pe_int (nomark _)) (pw_or1 (pt_cmpR op_ge (pv 3) (pv 0) (nomark _)))))
  (pss_one ps_never)
  pss_nil)))), ?_⟩
    refine ⟨_, rfl, a, _, rfl, hS, for_it walk_enum (fun i σ H' => ∃ v1 v2, σ = [some (.int b), some (.ref a), v1, v2] ∧ Same H H') ⟨none, none, rfl, Same.refl H⟩ (fun i σ H' _ ⟨_, _, _, s5⟩ => s5.seq hS) ?_ ?_⟩
    · rintro i x σ H1 H2 hi ⟨v1, v2, rfl, s5⟩ ⟨T0, x0, y0, rfl, nT, rfl, e1, e2⟩
      obtain ⟨z, hz, rfl⟩ := map_at e2
      obtain ⟨z0, z1⟩ := hb z (List.mem_of_getElem? hz)
      refine ⟨T0, _, rfl, SqT.of upd_same, rfl, _, _, rfl, _, _, rfl, rfl, ?_⟩
      refine ⟨_, rfl, _, _, rfl, rfl, _, rfl, ?_⟩
      refine ite2 (fun c => absurd (of_decide_eq_true c) (by omega)) (fun _ => ?_)
      refine ⟨_, rfl, _, rfl, _, _, rfl, rfl, _, rfl, ?_⟩
      refine ite2 (fun c => absurd (of_decide_eq_true c) (by omega)) (fun _ => ?_)
      exact ⟨_, _, rfl, s5.upd' nT⟩
    · rintro σ H' ⟨v1, v2, rfl, s5⟩
      exact k _ s5

abbrev s_cell_of : Stmt := top 21
abbrev N_cell_of : List Str := ["base", "numbers", "cell", "number"]
abbrev P_cell_of : List Str := ["base", "numbers"]
theorem sc_cell_of : FnScope N_cell_of P_cell_of (defScope s_cell_of) := ⟨rfl, rfl, rfl, by decide +kernel, rfl, by decide +kernel, by decide +kernel⟩
def spCell (K : PySem.W.Frag) : Sp := fun vs H Q _ => ∃ (b : Int) (a : Addr) (ns : List Int), vs = [.int b, .ref a] ∧ SqL K H a (ns.map V.int) ∧ 2 ≤ b ∧ b ≤ 10000 ∧ Q (.int (val b ns)) H
theorem ok_cell_of (T : Txt mg) (D : Df K mg "cell_of" s_cell_of P_cell_of) : Fn P w K mg base CX0 1 "cell_of" P_cell_of (spCell K) := by
  refine D.ok sc_cell_of (fun vs H Q E h => ?_) (fun f cdv A outer s H vs Q E hr h => ?_)
  · obtain ⟨b, a, ns, rfl, _⟩ := h
    rfl
  · obtain ⟨b, a, ns, rfl, hS, h2, h1, k⟩ := h
    have nd := sc_cell_of.nd
    refine ⟨_, (pss_cons (ps_set (i := 2) nd rfl (by first | exact Or.inl rfl | exact Or.inr rfl) pe_int)
  (pss_cons (ps_for PassesOwn.never rfl (pi_reversed (by rfl) T.b_reversed (pa_cons (pv 1) pa_nil)) (pg_name (i := 3) nd rfl (by first | exact Or.inl rfl | exact Or.inr rfl))
  (pss_one (ps_set (i := 2) nd rfl (by first | exact Or.inl rfl | exact Or.inr rfl) (pe_op op_add (pe_op op_mul (pv 2) (pv 0)) (pv 3)))))
  (pss_one (ps_ret (pv 2))))), ?_⟩
    refine ⟨_, rfl, a, _, rfl, hS, for_it walk_rev (fun i σ H' => ∃ v, σ = [some (.int b), some (.ref a), some (.int (val b (ns.drop (ns.length - i)))), v] ∧ H' = H) ⟨none, by rw [Nat.sub_zero, List.drop_length]; rfl, rfl⟩ (fun i σ H' _ ⟨_, _, s5⟩ => s5 ▸ hS) ?_ ?_⟩
    · rintro i x σ H1 H2 hi ⟨v, rfl, rfl⟩ ⟨rfl, e⟩
      rw [List.length_map] at hi e
      obtain ⟨z, hz, rfl⟩ := map_at e
      refine ⟨_, rfl, _, rfl, _, _, rfl, rfl, .inr (by constructor <;> omega), _, rfl, _, _, rfl, rfl, ?_⟩
      exact ⟨_, by rw [val_step b hi hz]; rfl, rfl⟩
    · rintro σ H' ⟨v, rfl, rfl⟩
      refine ⟨_, rfl, ?_⟩
      rw [List.length_map, Nat.sub_self]
      exact k

def spNum : Sp := fun vs H Q _ => ∃ (b c : Int), vs = [.int b, .int c] ∧ 2 ≤ b ∧ b ≤ 10000 ∧ ∀ (H' : Hp) (p : Addr), Same H H' → H p = none → H' p = some (.lst ((digits b (perC b) c).map V.int)) → Q (.ref p) H'
abbrev s_packed : Stmt := top 19
abbrev N_packed : List Str := ["base", "values", "many", "at"]
abbrev P_packed : List Str := ["base", "values"]
theorem sc_packed : FnScope N_packed P_packed (defScope s_packed) := ⟨rfl, rfl, rfl, by decide +kernel, rfl, by decide +kernel, by decide +kernel⟩
def spPck (K : PySem.W.Frag) : Sp := fun vs H Q _ => ∃ (b : Int) (a : Addr) (ns : List Int), vs = [.int b, .ref a] ∧ SqL K H a (ns.map V.int) ∧ 2 ≤ b ∧ b ≤ 10000 ∧ (∀ n ∈ ns, 0 ≤ n ∧ n < b) ∧ ns.length ≤ 1000 ∧
  ∀ (H' : Hp) (p : Addr), Same H H' → H p = none → H' p = some (.tup ((K3.packed b ns).map V.int)) → Q (.ref p) H'
theorem ok_packed (T : Txt mg) (D : Df K mg "packed" s_packed P_packed) (G_per_cell : Fn P w K mg base CX0 1 "per_cell" P_per_cell spPer) (G_check_below : Fn P w K mg base CX0 1 "check_below" P_check_below (spChk K))
    (G_cell_of : Fn P w K mg base CX0 1 "cell_of" P_cell_of (spCell K)) : Fn P w K mg base CX0 2 "packed" P_packed (spPck K) := by
  refine D.ok sc_packed (fun vs H Q E h => ?_) (fun f cdv A outer s H vs Q E hr h => ?_)
  · obtain ⟨b, a, ns, rfl, _⟩ := h
    rfl
  · obtain ⟨b, a, ns, rfl, hS, h2, h1, hb, hl, k⟩ := h
    have nd := sc_packed.nd
    refine ⟨_, (pss_cons (ps_set (i := 2) nd rfl (by first | exact Or.inl rfl | exact Or.inr rfl) (pe_c G_per_cell (hr.mono (by decide)) pass0 (pa_cons (pv 0) pa_nil)))
  (pss_cons (ps_expr (pe_c G_check_below (hr.mono (by decide)) pass0 (pa_cons (pv 0) (pa_cons (pv 1) pa_nil))))
  (pss_one (ps_ret (pe_callTy call_tuple_of (by rfl) T.b_tuple (by decide +kernel) (pa_cons (pe_lc (own := [("at", 3)]) (g := gName 3) (by rfl) nd  (pi_range3 (by rfl) T.b_range (pa_cons pe_int (pa_cons (pe_callB call_len_seq (by rfl) T.b_len (by decide +kernel) (pa_cons (pv 1) pa_nil)) (pa_cons (pv 2) pa_nil)))) (blkOk_by (own := [("at", 3)]) (N := N_packed) (sc := defScope s_packed) (by decide +kernel)) (fun _ _ _ _ _ => pg_name (i := 3) nd rfl (Or.inl rfl)) (fun _ _ _ _ _ => pts_nil) (fun _ _ _ _ _ => (pe_c G_cell_of (hr.mono (by decide)) pass0 (pa_cons (pv 0) (pa_cons (pe_slice (sl_listK (K := K) rfl) (pv 1) (po_some (pv 3)) (po_some (pe_op op_add (pv 3) (pv 2)))) pa_nil))))) pa_nil)))))), ?_⟩
    have hk := perC_pos h1
    have hkl := perC_le b
    refine ⟨_, rfl, b, rfl, h2, h1, ?_⟩
    refine ⟨_, rfl, _, rfl, b, a, ns, rfl, hS, hb, fun H1 s1 => ?_⟩
    refine ⟨_, rfl, a, _, rfl, .inl (s1.seq hS), _, rfl, _, _, _, cells (perC b) ns.length, rfl, ?_, ?_⟩
    · rw [List.length_map]
      exact rgC_up hk (by omega) (by omega)
    intro D nD
    have sD : Same H (upd H1 D (.lst [])) := s1.upd' nD
    have nDH : H D = none := s1.free nD
    refine lc_all walk_rangeC (fun i H' => Same H H' ∧ H' D = some (.lst (((List.range i).map (fun i => val b ((ns.drop (i * perC b)).take (perC b)))).map V.int))) ⟨sD, upd_same⟩ (fun _ _ _ _ => True.intro) ?_ ?_
    · rintro i x H2 H3 hi ⟨s2, hD⟩ ⟨rfl, rfl⟩
      have hc := (cells_lt hk).mp hi
      have e0 : (0 : Int) + (i : Int) * (perC b : Int) = ((i * perC b : Nat) : Int) := by rw [Int.natCast_mul]; omega
      refine ⟨_, rfl, _, rfl, _, rfl, _, rfl, _, rfl, _, rfl, _, _, rfl, rfl, _, rfl, a, _, rfl, s2.seq hS, fun p np => ?_⟩
      refine ⟨b, p, (ns.drop (i * perC b)).take (perC b), rfl, SqL.of ?_, h2, h1, ?_⟩
      · rw [upd_same, e0, cutV_part, List.map_take, List.map_drop]
      refine ⟨_, (upd_ne (ne_of_none hD np)).trans hD, ?_, Same.put (s2.upd' np) nDH, ?_⟩
      · rw [List.length_map, List.length_map, List.length_range, sizeLine_eq]
        have := cells_le (n := ns.length) hk
        omega
      · rw [upd_same, List.range_succ, List.map_append, List.map_append]
        rfl
    · rintro H2 ⟨s2, hD⟩
      refine ⟨_, _, rfl, .inl ⟨SqL.of hD, fun l nl => ?_⟩⟩
      rw [packed_eq h1]
      exact k _ _ (s2.upd' nl) (s2.free nl) upd_same

def spUnp (K : PySem.W.Frag) : Sp := fun vs H Q _ => ∃ (b : Int) (a : Addr) (cs : List Int) (m : Nat), vs = [.int b, .ref a, .int m] ∧ SqT K H a (cs.map V.int) ∧ 2 ≤ b ∧ b ≤ 10000 ∧ cs.length ≤ 1000 ∧
  ∀ (H' : Hp) (p : Addr), Same H H' → H p = none → H' p = some (.lst (((cs.flatMap (digits b (perC b))).take m).map V.int)) → Q (.ref p) H'
end
end K3

set_option Elab.async false
set_option linter.all false
set_option maxRecDepth 100000
set_option maxHeartbeats 4000000
namespace K3
open PySem PySem.Spec PyProof.Rows L2
/-! ### == of lists of ints -/
theorem eqvAll_ints : ∀ ns ms : List Int, PyData.eqvAll (ns.map PyData.int) (ms.map PyData.int) = decide (ns = ms)
  | [], [] => rfl
  | [], _ :: _ => by simp [PyData.eqvAll]
  | _ :: _, [] => by simp [PyData.eqvAll]
  | n :: ns, m :: ms => by
    rw [List.map_cons, List.map_cons, PyData.eqvAll, eqvAll_ints ns ms, PyData.eqv]
    by_cases h : n = m
    · subst h; simp
    · simp [h]
theorem dpAll_ints {K : PySem.W.Frag} {H : Hp} : ∀ ns : List Int, DpAll K H (ns.map V.int) (ns.map PyData.int)
  | [] => .nil
  | n :: r => .cons (.int n) (dpAll_ints r)
def rEqIs (K : PySem.W.Frag) : R2 := fun x y H Q => ∃ (a b : Addr) (ns ms : List Int), x = .ref a ∧ y = .ref b ∧ SqL K H a (ns.map V.int) ∧ SqL K H b (ms.map V.int) ∧ Q (.bl (decide (ns = ms))) H
def rNeIs (K : PySem.W.Frag) : R2 := fun x y H Q => ∃ (a b : Addr) (ns ms : List Int), x = .ref a ∧ y = .ref b ∧ SqL K H a (ns.map V.int) ∧ SqL K H b (ms.map V.int) ∧ Q (.bl (!decide (ns = ms))) H
theorem op_eqIs {X : Cx} (hu : X.A.units + 64 < cLine) : OpR X (compareOp .Eq) (rEqIs X.K) := by
  intro pins s σ H x y v u Q I rx ry ⟨a, b, ns, ms, ex, ey, h1, h2, q⟩
  subst ex ey
  refine op_eqD hu pins s σ H _ _ v u Q I rx ry ⟨_, _, .lst h1 (dpAll_ints ns), .lst h2 (dpAll_ints ms), PySem.W.ke_shaped_ints ns, PySem.W.ke_shaped_ints ms, ?_⟩
  rw [PyData.eqv, eqvAll_ints]
  exact q
theorem op_neIs {X : Cx} (hu : X.A.units + 64 < cLine) : OpR X (compareOp .NotEq) (rNeIs X.K) := by
  intro pins s σ H x y v u Q I rx ry ⟨a, b, ns, ms, ex, ey, h1, h2, q⟩
  subst ex ey
  refine op_neD hu pins s σ H _ _ v u Q I rx ry ⟨_, _, .lst h1 (dpAll_ints ns), .lst h2 (dpAll_ints ms), PySem.W.ke_shaped_ints ns, PySem.W.ke_shaped_ints ms, ?_⟩
  rw [PyData.eqv, eqvAll_ints]
  exact q
/-! ### the box of draws -/
/-- at b the box: its list of numbers at l, its stirred number -/
def Bx (H : Hp) (b l : Addr) : Prop := ∃ (st : Int) (ns : List Int), H b = some (.lst [.ref l, .int st]) ∧ H l = some (.lst (ns.map V.int)) ∧ ns.length ≤ 63
/-- all but the box stays -/
def Out (b l : Addr) (H H' : Hp) : Prop := ∀ c o, c ≠ b → c ≠ l → H c = some o → H' c = some o
theorem Out.refl {b l : Addr} {H : Hp} : Out b l H H := fun _ _ _ _ e => e
theorem Out.trans {b l : Addr} {H H1 H2 : Hp} (a : Out b l H H1) (c : Out b l H1 H2) : Out b l H H2 := fun d o h1 h2 e => c d o h1 h2 (a d o h1 h2 e)
theorem Out.of {b l : Addr} {H H' : Hp} (s : Same H H') : Out b l H H' := fun _ _ _ _ e => s _ _ e
theorem Out.b {b l : Addr} {H : Hp} {o : HO} : Out b l H (upd H b o) := fun c u h1 _ e => by rw [upd_ne h1]; exact e
theorem Out.l {b l : Addr} {H : Hp} {o : HO} : Out b l H (upd H l o) := fun c u _ h2 e => by rw [upd_ne h2]; exact e
theorem Bx.same {b l : Addr} {H H' : Hp} (h : Bx H b l) (s : Same H H') : Bx H' b l := by
  obtain ⟨st, ns, h1, h2, h3⟩ := h
  exact ⟨st, ns, s _ _ h1, s _ _ h2, h3⟩
theorem Bx.ne {b l : Addr} {H : Hp} (h : Bx H b l) : b ≠ l := by
  obtain ⟨st, ns, h1, h2, h3⟩ := h
  intro e
  subst e
  rw [h1] at h2
  have e2 := HO.lst.inj (Option.some.inj h2)
  cases ns with
  | nil => cases e2
  | cons n r => cases e2
/-- what stands apart from the box is kept -/
theorem Out.at {b l p : Addr} {H H' : Hp} {o : HO} (h : Out b l H H') (h1 : p ≠ b) (h2 : p ≠ l) (e : H p = some o) : H' p = some o := h p o h1 h2 e
theorem Bx.free {b l p : Addr} {H : Hp} (h : Bx H b l) (n : H p = none) : p ≠ b ∧ p ≠ l := by
  obtain ⟨st, ns, h1, h2, h3⟩ := h
  exact ⟨fun e => (by rw [e, h1] at n; cases n), fun e => (by rw [e, h2] at n; cases n)⟩
theorem at0 {x : V} {xs : List V} : atI (x :: xs) 0 = some x := at_of (z := 0) (j := 0) rfl rfl
theorem ix0 (n : Nat) : ixN (n + 1) 0 = some 0 := by
  unfold ixN
  simp
section
variable {P : Program} {w : World} {K : PySem.W.Frag} {mg : Str → Option Value} {base : Heap}
abbrev s__law_begun : Stmt := top 45
abbrev N__law_begun : List Str := ["_law_script", "_law_stirred", "_law_cell"]
abbrev P__law_begun : List Str := ["_law_script"]
theorem sc__law_begun : FnScope N__law_begun P__law_begun (defScope s__law_begun) := ⟨rfl, rfl, rfl, by decide +kernel, rfl, by decide +kernel, by decide +kernel⟩
def spBegun (K : PySem.W.Frag) : Sp := fun vs H Q _ => ∃ (a : Addr) (ns : List Int), vs = [.ref a] ∧ SqL K H a (ns.map V.int) ∧ ns.length ≤ 63 ∧
  ∀ (H' : Hp) (b l : Addr), Same H H' → Bx H' b l → Q (.ref b) H'
theorem ok_begun (T : Txt mg) (D : Df K mg "_law_begun" s__law_begun P__law_begun) : Fn P w K mg base CX0 1 "_law_begun" P__law_begun (spBegun K) := by
  refine D.ok sc__law_begun (fun vs H Q E h => ?_) (fun f cdv A outer s H vs Q E hr h => ?_)
  · obtain ⟨a, ns, rfl, _⟩ := h
    rfl
  · obtain ⟨a, ns, rfl, hS, hl, k⟩ := h
    have nd := sc__law_begun.nd
    refine ⟨_, (pss_cons (ps_set (i := 1) nd rfl (by first | exact Or.inl rfl | exact Or.inr rfl) pe_int)
  (pss_cons (ps_for PassesOwn.never rfl (pi_list (pv 0)) (pg_name (i := 2) nd rfl (by first | exact Or.inl rfl | exact Or.inr rfl))
  (pss_one (ps_set (i := 1) nd rfl (by first | exact Or.inl rfl | exact Or.inr rfl) (pe_op op_mod (pe_op op_add (pe_op op_add (pe_op op_mul (pv 1) pe_int) (pe_op op_mul (pv 2) pe_int)) pe_int) pe_int))))
  (pss_one (ps_ret (pe_lst (pa_cons (pe_callTy call_list_of (by rfl) T.b_list (by decide +kernel) (pa_cons (pv 0) pa_nil)) (pa_cons (pe_op op_mul (pv 1) (pe_callTy call_int1 (by rfl) T.b_int (by decide +kernel) (pa_cons (pe_cmpR op_gt (pe_callB call_len_seq (by rfl) T.b_len (by decide +kernel) (pa_cons (pv 0) pa_nil)) pe_int (nomark _)) pa_nil))) pa_nil))))))), ?_⟩
    refine ⟨_, rfl, a, rfl, ⟨_, hS⟩, for_it walk_list (fun i σ H' => ∃ (z : Int) (v : Option V), σ = [some (.ref a), some (.int z), v] ∧ H' = H) ⟨0, none, rfl, rfl⟩ (fun i σ H' _ ⟨_, _, _, e⟩ => e ▸ hS) ?_ ?_⟩
    · rintro i x σ H1 H2 hi ⟨z, v, rfl, rfl⟩ ⟨rfl, e⟩
      obtain ⟨y, hy, rfl⟩ := map_at e
      refine ⟨_, rfl, _, _, rfl, rfl, .inr (by constructor <;> decide), _, rfl, _, _, rfl, rfl, .inr (by constructor <;> decide), _, _, rfl, rfl, _, _, rfl, rfl, _, _, rfl, rfl, (by show (0 : Int) < 2147483647; decide), ?_⟩
      exact ⟨_, _, rfl, rfl⟩
    · rintro σ H' ⟨z, v, rfl, rfl⟩
      refine ⟨_, rfl, a, _, rfl, .inl hS, fun l nl => ?_⟩
      have hS' := (Same.upd (o := .lst (ns.map V.int)) nl).seq hS
      refine ⟨_, rfl, _, rfl, a, _, rfl, .inl hS', _, _, rfl, rfl, .inr ⟨_, rfl, ?_⟩⟩
      refine ⟨_, _, rfl, rfl, .inr ?_, (by show 2 ≤ sizeLine; decide), fun p np => ?_⟩
      · split <;> constructor <;> decide
      refine k _ p l ((Same.upd nl).upd' np) ⟨_, ns, upd_same, (upd_ne (ne_of_none upd_same np)).trans upd_same, hl⟩
abbrev s__law_take : Stmt := top 46
abbrev N__law_take : List Str := ["_law_box", "_law_many", "_law_number"]
abbrev P__law_take : List Str := ["_law_box", "_law_many"]
theorem sc__law_take : FnScope N__law_take P__law_take (defScope s__law_take) := ⟨rfl, rfl, rfl, by decide +kernel, rfl, by decide +kernel, by decide +kernel⟩
def spTake : Sp := fun vs H Q _ => ∃ (b l : Addr) (m : Int), vs = [.ref b, .int m] ∧ Bx H b l ∧ 0 < m ∧ m < 1073741824 ∧
  ∀ (H' : Hp) (v : Int), Bx H' b l → Out b l H H' → 0 ≤ v → v < m → Q (.int v) H'
theorem ok_take (T : Txt mg) (D : Df K mg "_law_take" s__law_take P__law_take) : Fn P w K mg base CX0 1 "_law_take" P__law_take spTake := by
  refine D.ok sc__law_take (fun vs H Q E h => ?_) (fun f cdv A outer s H vs Q E hr h => ?_)
  · obtain ⟨b, l, m, rfl, _⟩ := h
    rfl
  · obtain ⟨b, l, m, rfl, B, m0, m1, k⟩ := h
    have nd := sc__law_take.nd
    refine ⟨_, (pss_cons (ps_if (pt_cmpR (op_eqIs hr.units) (pe_ix ix_list (pv 0) pe_int (fun _ _ => rfl)) (pe_lst pa_nil) (nomark _))
  (pss_cons (ps_asg (pe_op op_mod (pe_op op_mul (pe_ix ix_list (pv 0) pe_int (fun _ _ => rfl)) pe_int) pe_int) (pg_sub (pv 0) pe_int set_list))
  (pss_one (ps_ret (pe_op op_mod (pe_op op_fdiv (pe_ix ix_list (pv 0) pe_int (fun _ _ => rfl)) pe_int) (pv 1)))))
  pss_nil)
  (pss_cons (ps_set (i := 2) nd rfl (by first | exact Or.inl rfl | exact Or.inr rfl) (pe_ix ix_list (pe_ix ix_list (pv 0) pe_int (fun _ _ => rfl)) pe_int (fun _ _ => rfl)))
  (pss_cons (ps_asg (pe_op op_fdiv (pv 2) (pv 1)) (pg_sub (pe_ix ix_list (pv 0) pe_int (fun _ _ => rfl)) pe_int set_list))
  (pss_cons (ps_if (PW.pt (pw_or (pt_cmpR op_eq (pe_ix ix_list (pe_ix ix_list (pv 0) pe_int (fun _ _ => rfl)) pe_int (fun _ _ => rfl)) pe_int (nomark _)) (pw_or1 (pt_cmpR op_eq (pe_ix ix_list (pe_ix ix_list (pv 0) pe_int (fun _ _ => rfl)) pe_int (fun _ _ => rfl)) (pe_un un_neg pe_int) (nomark _)))))
  (pss_one (ps_expr (pe_bm PySem.F.plainAttrs_list PySem.F.slot_list_pop PySem.F.type_list_pop mt_popAt (pe_ix ix_list (pv 0) pe_int (fun _ _ => rfl)) (pa_cons pe_int pa_nil))))
  pss_nil)
  (pss_one (ps_ret (pe_op op_mod (pv 2) (pv 1)))))))), ?_⟩
    have nbl := B.ne
    obtain ⟨st, ns, h1, h2, h3⟩ := B
    refine ⟨_, rfl, b, _, 0, _, rfl, rfl, SqL.of h1, rfl, Nat.zero_le _, fun p np => ?_⟩
    refine ⟨l, p, ns, [], rfl, rfl, SqL.of ((upd_ne (ne_of_none h2 np)).trans h2), SqL.of upd_same, _, rfl, ?_⟩
    refine ite2 (fun c => ?_) (fun c => ?_)
    · have c' : ns = [] := of_decide_eq_true c
      subst c'
      refine ⟨_, rfl, b, _, 1, _, rfl, rfl, SqL.of ((upd_ne (ne_of_none h1 np)).trans h1), rfl, _, _, rfl, rfl, .inr (by constructor <;> decide), _, _, rfl, rfl, (by show (0 : Int) < 2147483647; decide), _, rfl, b, _, 1, 1, rfl, rfl, (upd_ne (ne_of_none h1 np)).trans h1, rfl, ?_⟩
      refine ⟨_, rfl, b, _, 1, _, rfl, rfl, SqL.of upd_same, rfl, _, _, rfl, rfl, ⟨by decide, by decide⟩, _, rfl, _, _, rfl, rfl, m0, ?_⟩
      refine k _ _ ⟨_, [], upd_same, ?_, Nat.zero_le _⟩ ((Out.of (Same.upd np)).trans Out.b) (Int.emod_nonneg _ (by omega)) (Int.emod_lt_of_pos _ m0)
      rw [upd_ne nbl.symm, upd_ne (ne_of_none h2 np)]
      exact h2
    · cases ns with
      | nil => exact absurd (decide_eq_true rfl) c
      | cons n r =>
        have hb : (upd H p (.lst [])) b = some (.lst [.ref l, .int st]) := (upd_ne (ne_of_none h1 np)).trans h1
        have hl : (upd H p (.lst [])) l = some (.lst (.int n :: r.map V.int)) := (upd_ne (ne_of_none h2 np)).trans h2
        have s1 : Out b l H (upd H p (.lst [])) := Out.of (Same.upd np)
        refine ⟨_, rfl, b, _, 0, _, rfl, rfl, SqL.of hb, rfl, l, _, 0, _, rfl, rfl, SqL.of hl, at0, ?_⟩
        refine ⟨_, rfl, _, rfl, _, _, rfl, rfl, ⟨m0, m1⟩, _, rfl, b, _, 0, _, rfl, rfl, SqL.of hb, rfl, l, _, 0, 0, rfl, rfl, hl, ix0 _, ?_⟩
        have hb2 : (upd (upd H p (.lst [])) l (.lst (.int (n / m) :: r.map V.int))) b = some (.lst [.ref l, .int st]) := (upd_ne nbl).trans hb
        have hl2 : (upd (upd H p (.lst [])) l (.lst (.int (n / m) :: r.map V.int))) l = some (.lst (.int (n / m) :: r.map V.int)) := upd_same
        have s2 : Out b l H (upd (upd H p (.lst [])) l (.lst (.int (n / m) :: r.map V.int))) := s1.trans Out.l
        have kp : tSeq (tDrop (tBM K "list" rPopAt (tOp (rIxL K) (tVar 0) (tC (.int 0))) (tCons (tC (.int 0)) tNil))) (tRet (tOp (rI (fun _ j => 0 < j) fun i j => V.int (i % j)) (tVar 2) (tVar 1))) { nx := fun _ H' => Q .non H', rt := Q }
            [some (.ref b), some (.int m), some (.int n)] (upd (upd H p (.lst [])) l (.lst (.int (n / m) :: r.map V.int))) := by
          refine ⟨_, rfl, b, _, 0, _, rfl, rfl, SqL.of hb2, rfl, .inl ⟨rfl, _, SqL.of hl2⟩, l, _, 0, 0, _, rfl, rfl, hl2, by decide, by decide, ?_, rfl, ?_⟩
          · show seqIndex? 0 (r.map V.int).length.succ = some 0
            unfold seqIndex?
            simp
          refine ⟨_, rfl, _, rfl, _, _, rfl, rfl, m0, ?_⟩
          refine k _ _ ⟨st, r, (upd_ne nbl).trans hb2, upd_same, by simp at h3; omega⟩ (s2.trans Out.l) (Int.emod_nonneg _ (by omega)) (Int.emod_lt_of_pos _ m0)
        refine ⟨_, rfl, b, _, 0, _, rfl, rfl, SqL.of hb2, rfl, l, _, 0, _, rfl, rfl, SqL.of hl2, at0, rfl, _, rfl, ?_⟩
        refine ite2 (fun _ => kp) (fun _ => ?_)
        refine ⟨_, rfl, b, _, 0, _, rfl, rfl, SqL.of hb2, rfl, l, _, 0, _, rfl, rfl, SqL.of hl2, at0, _, rfl, rfl, _, rfl, ?_⟩
        refine ite2 (fun _ => kp) (fun _ => ?_)
        refine ⟨_, rfl, _, rfl, _, _, rfl, rfl, m0, ?_⟩
        exact k _ _ ⟨st, (n / m) :: r, hb2, hl2, by simpa using h3⟩ s2 (Int.emod_nonneg _ (by omega)) (Int.emod_lt_of_pos _ m0)
end
end K3

set_option Elab.async false
set_option linter.all false
set_option maxRecDepth 100000
set_option maxHeartbeats 4000000
namespace K3
open PySem PySem.Spec PyProof.Rows L2
theorem pickI {zs : List Int} {v : Int} (h0 : 0 ≤ v) (h1 : v < (zs.length : Int)) : ∃ y, y ∈ zs ∧ atI (zs.map V.int) v = some (.int y) := by
  obtain ⟨k, rfl⟩ : ∃ k : Nat, v = (k : Int) := ⟨v.toNat, by omega⟩
  have hk : k < zs.length := by omega
  exact ⟨zs[k], List.getElem_mem hk, atI_nat (by rw [List.getElem?_map, List.getElem?_eq_getElem hk]; rfl)⟩
/-- what a draw leaves, all apart from the box -/
structure Drw (H0 H : Hp) (b l p : Addr) (xs : List Int) : Prop where
  bx : Bx H b l
  out : Out b l H0 H
  new : H0 p = none
  pb : p ≠ b
  pl : p ≠ l
  at_ : H p = some (.lst (xs.map V.int))
theorem Drw.step {H0 H H' : Hp} {b l p : Addr} {xs : List Int} (d : Drw H0 H b l p xs) (B : Bx H' b l) (O : Out b l H H') : Drw H0 H' b l p xs := ⟨B, d.out.trans O, d.new, d.pb, d.pl, O.at d.pb d.pl d.at_⟩
theorem Drw.same {H0 H H' : Hp} {b l p : Addr} {xs : List Int} (d : Drw H0 H b l p xs) (s : Same H H') : Drw H0 H' b l p xs := d.step (d.bx.same s) (.of s)
theorem Drw.put {H0 H : Hp} {b l p : Addr} {xs ys : List Int} (d : Drw H0 H b l p xs) : Drw H0 (upd H p (.lst (ys.map V.int))) b l p ys := by
  obtain ⟨st, ns, h1, h2, h3⟩ := d.bx
  refine ⟨⟨st, ns, (upd_ne d.pb.symm).trans h1, (upd_ne d.pl.symm).trans h2, h3⟩, fun c o c1 c2 e => ?_, d.new, d.pb, d.pl, upd_same⟩
  rw [upd_ne (ne_of_none e d.new)]
  exact d.out c o c1 c2 e
/-- max(-9999, min(9999, y)) -/
def clip (y : Int) : Int := if (if y < 9999 then y else 9999) > -9999 then (if y < 9999 then y else 9999) else -9999
theorem clip_in (y : Int) : -9999 ≤ clip y ∧ clip y ≤ 9999 := by
  unfold clip
  split <;> split <;> omega
section
variable {P : Program} {w : World} {K : PySem.W.Frag} {mg : Str → Option Value} {base : Heap}
abbrev s__law_values : Stmt := top 57
abbrev N__law_values : List Str := ["_law_box", "_law_most", "_law_found", "_law_many", "_law_way", "_law_begin", "_law_step", "_law_k", "_law_some"]
abbrev P__law_values : List Str := ["_law_box", "_law_most"]
theorem sc__law_values : FnScope N__law_values P__law_values (defScope s__law_values) := ⟨rfl, rfl, rfl, by decide +kernel, rfl, by decide +kernel, by decide +kernel⟩
def spVals : Sp := fun vs H Q _ => ∃ (b l : Addr) (m : Int), vs = [.ref b, .int m] ∧ Bx H b l ∧ 1 ≤ m ∧ m ≤ 32 ∧
  ∀ (H' : Hp) (p : Addr) (xs : List Int), Bx H' b l → Out b l H H' → H p = none → p ≠ b → p ≠ l → H' p = some (.lst (xs.map V.int)) → xs ≠ [] → (xs.length : Int) ≤ m → (∀ x ∈ xs, -9999 ≤ x ∧ x ≤ 9999) → Q (.ref p) H'
def lenAt (p : Addr) (H : Hp) : Nat := match H p with
  | some (.lst xs) => xs.length
  | _ => 0
theorem ok_values (T : Txt mg) (D : Df K mg "_law_values" s__law_values P__law_values) (G__law_take : Fn P w K mg base CX0 1 "_law_take" P__law_take spTake) : Fn P w K mg base CX0 2 "_law_values" P__law_values spVals := by
  refine D.ok sc__law_values (fun vs H Q E h => ?_) (fun f cdv A outer s H vs Q E hr h => ?_)
  · obtain ⟨b, l, m, rfl, _⟩ := h
    rfl
  · obtain ⟨b, l, m, rfl, B, m1, m2, k⟩ := h
    have nd := sc__law_values.nd
    refine ⟨_, (pss_cons (ps_set (i := 2) nd rfl (by first | exact Or.inl rfl | exact Or.inr rfl) (pe_lst pa_nil))
  (pss_cons (ps_set (i := 3) nd rfl (by first | exact Or.inl rfl | exact Or.inr rfl) (pe_op op_add pe_int (pe_c G__law_take (hr.mono (by decide)) pass0 (pa_cons (pv 0) (pa_cons (pv 1) pa_nil)))))
  (pss_cons (ps_while PassesOwn.never (pt_cmpR op_lt (pe_callB call_len_seq (by rfl) T.b_len (by decide +kernel) (pa_cons (pv 2) pa_nil)) (pv 3) (nomark _))
  (pss_cons (ps_set (i := 4) nd rfl (by first | exact Or.inl rfl | exact Or.inr rfl) (pe_c G__law_take (hr.mono (by decide)) pass0 (pa_cons (pv 0) (pa_cons pe_int pa_nil))))
  (pss_cons (ps_set (i := 5) nd rfl (by first | exact Or.inl rfl | exact Or.inr rfl) (pe_ix ix_list (pe_lst (pa_cons (pe_c G__law_take (hr.mono (by decide)) pass0 (pa_cons (pv 0) (pa_cons pe_int pa_nil))) (pa_cons (pe_op op_sub (pe_c G__law_take (hr.mono (by decide)) pass0 (pa_cons (pv 0) (pa_cons pe_int pa_nil))) pe_int) pa_nil))) (pe_c G__law_take (hr.mono (by decide)) pass0 (pa_cons (pv 0) (pa_cons pe_int pa_nil))) (fun _ _ => rfl)))
  (pss_cons (ps_set (i := 6) nd rfl (by first | exact Or.inl rfl | exact Or.inr rfl) (pe_ix ix_list (pe_lst (pa_cons pe_int (pa_cons pe_int (pa_cons (pe_op op_add pe_int (pe_c G__law_take (hr.mono (by decide)) pass0 (pa_cons (pv 0) (pa_cons pe_int pa_nil)))) (pa_cons (pe_op op_sub (pe_c G__law_take (hr.mono (by decide)) pass0 (pa_cons (pv 0) (pa_cons pe_int pa_nil))) pe_int) pa_nil))))) (pe_c G__law_take (hr.mono (by decide)) pass0 (pa_cons (pv 0) (pa_cons pe_int pa_nil))) (fun _ _ => rfl)))
  (pss_one (ps_for PassesOwn.never rfl (pi_range1 (by rfl) T.b_range (pa_cons (pe_op op_add pe_int (pe_c G__law_take (hr.mono (by decide)) pass0 (pa_cons (pv 0) (pa_cons (pe_ix ix_list (pe_lst (pa_cons pe_int (pa_cons pe_int (pa_cons pe_int pa_nil)))) (pe_c G__law_take (hr.mono (by decide)) pass0 (pa_cons (pv 0) (pa_cons pe_int pa_nil))) (fun _ _ => rfl)) pa_nil)))) pa_nil)) (pg_name (i := 7) nd rfl (by first | exact Or.inl rfl | exact Or.inr rfl))
  (pss_cons (ps_set (i := 8) nd rfl (by first | exact Or.inl rfl | exact Or.inr rfl) (pe_lst (pa_cons (pv 5) (pa_cons (pe_op op_add (pv 5) (pe_c G__law_take (hr.mono (by decide)) pass0 (pa_cons (pv 0) (pa_cons pe_int pa_nil)))) (pa_cons (pe_op op_add (pv 5) (pe_c G__law_take (hr.mono (by decide)) pass0 (pa_cons (pv 0) (pa_cons pe_int pa_nil)))) (pa_cons (pe_op op_add (pv 5) (pe_op op_mul (pv 6) (pv 7))) pa_nil))))))
  (pss_cons (ps_set (i := 8) nd rfl (by first | exact Or.inl rfl | exact Or.inr rfl) (pe_op op_cat (pv 8) (pe_lst (pa_cons (pe_ix ix_list (pe_lst (pa_cons (pv 5) (pa_cons (pe_op op_sub pe_int (pv 5)) (pa_cons pe_int pa_nil)))) (pe_c G__law_take (hr.mono (by decide)) pass0 (pa_cons (pv 0) (pa_cons pe_int pa_nil))) (fun _ _ => rfl)) (pa_cons (pe_op op_sub (pe_c G__law_take (hr.mono (by decide)) pass0 (pa_cons (pv 0) (pa_cons pe_int pa_nil))) pe_int) pa_nil)))))
  (pss_one (ps_expr (pe_bm PySem.F.plainAttrs_list PySem.F.slot_list_append PySem.F.type_list_append mt_append (pv 2) (pa_cons (pe_callB (call_max2 rfl) (by rfl) T.b_max (by decide +kernel) (pa_cons (pe_un un_neg pe_int) (pa_cons (pe_callB (call_min2 rfl) (by rfl) T.b_min (by decide +kernel) (pa_cons pe_int (pa_cons (pe_ix ix_list (pv 8) (pv 4) (fun _ _ => rfl)) pa_nil))) pa_nil))) pa_nil))))))))))))
  (pss_one (ps_ret (pe_slice sl_list (pv 2) po_none (po_some (pv 3)))))))), ?_⟩
    refine ⟨Nat.zero_le _, fun p np => ?_⟩
    obtain ⟨npb, npl⟩ := B.free np
    have d0 : Drw H (upd H p (.lst [])) b l p [] := ⟨B.same (Same.upd np), .of (Same.upd np), np, npb, npl, upd_same⟩
    refine ⟨_, rfl, _, rfl, b, l, m, rfl, d0.bx, by omega, by omega, fun H1 d B1 O1 g0 g1 => ⟨_, _, rfl, rfl, ?_⟩⟩
    have d1 := d0.step B1 O1
    refine while_by (fun σ H' => ∃ (xs : List Int) (v4 v5 v6 v7 v8 : Option V), σ = [some (.ref b), some (.int m), some (.ref p), some (.int (1 + d)), v4, v5, v6, v7, v8] ∧ Drw H H' b l p xs ∧ xs.length ≤ 64 ∧ (∀ x ∈ xs, -9999 ≤ x ∧ x ≤ 9999) ∧ ((xs.length : Int) < 1 + d ∨ 1 ≤ xs.length))
      (fun _ H' => (1 + d - (lenAt p H' : Int)).toNat) ⟨[], none, none, none, none, none, rfl, d1, Nat.zero_le _, (fun x hx => nomatch hx), .inl (by show (0 : Int) < 1 + d; omega)⟩ ?_ (fun σ H Q Q' im h => ?_)
    · rintro σ H2 ⟨xs, v4, v5, v6, v7, v8, rfl, d2, hl, hx, hne⟩
      refine ⟨_, rfl, p, _, rfl, .inl (SqL.of d2.at_), _, rfl, _, _, rfl, rfl, _, rfl, ?_⟩
      rw [List.length_map]
      refine ite2 (fun c => ?_) (fun c => ?_)
      · have c' : (xs.length : Int) < 1 + d := of_decide_eq_true c
        -- way, begin, step
        refine ⟨_, rfl, b, l, _, rfl, d2.bx, by decide, by decide, fun H3 way B3 O3 w0 w1 => ?_⟩
        have d3 := d2.step B3 O3
        refine ⟨_, rfl, b, l, _, rfl, d3.bx, by decide, by decide, fun H4 a1 B4 O4 a0 a2 => ⟨_, rfl, b, l, _, rfl, B4, by decide, by decide, fun H5 a3 B5 O5 a4 a5 => ⟨_, _, rfl, rfl, (by show 2 ≤ sizeLine; decide), fun q nq => ?_⟩⟩⟩
        have d5 := ((d3.step B4 O4).step B5 O5).same (Same.upd (o := .lst ([a1, a3 - 9999].map V.int)) nq)
        refine ⟨_, rfl, b, l, _, rfl, d5.bx, by decide, by decide, fun H6 v1 B6 O6 v10 v11 => ?_⟩
        have d6 := d5.step B6 O6
        obtain ⟨beg, _, ya⟩ := pickI (zs := [a1, a3 - 9999]) v10 v11
        refine ⟨q, _, v1, _, rfl, rfl, SqL.of (O6.at (B5.free nq).1 (B5.free nq).2 upd_same), ya, ?_⟩
        refine ⟨_, rfl, b, l, _, rfl, B6, by decide, by decide, fun H7 e1 B7 O7 e2 e3 => ⟨_, _, rfl, rfl, _, rfl, b, l, _, rfl, B7, by decide, by decide, fun H8 e4 B8 O8 e5 e6 => ⟨_, _, rfl, rfl, (by show 4 ≤ sizeLine; decide), fun q2 nq2 => ?_⟩⟩⟩
        have d8 := ((d6.step B7 O7).step B8 O8).same (Same.upd (o := .lst ([0, 1, 1 + e1, e4 - 200].map V.int)) nq2)
        refine ⟨_, rfl, b, l, _, rfl, d8.bx, by decide, by decide, fun H9 v2 B9 O9 v20 v21 => ?_⟩
        have d9 := d8.step B9 O9
        obtain ⟨stp, sm, sa⟩ := pickI (zs := [0, 1, 1 + e1, e4 - 200]) v20 v21
        have sb : -1000 ≤ stp ∧ stp ≤ 1000 := by
          simp only [List.mem_cons, List.not_mem_nil, or_false] at sm
          omega
        refine ⟨q2, _, v2, _, rfl, rfl, SqL.of (O9.at (B8.free nq2).1 (B8.free nq2).2 upd_same), sa, ?_⟩
        -- for k in range(1 + ..)
        refine ⟨_, rfl, (by show 3 ≤ sizeLine; decide), fun q3 nq3 => ?_⟩
        have d10 := d9.same (Same.upd (o := .lst ([9, 9, 32].map V.int)) nq3)
        refine ⟨_, rfl, b, l, _, rfl, d10.bx, by decide, by decide, fun H10 v3 B10 O10 v30 v31 => ?_⟩
        have d11 := d10.step B10 O10
        obtain ⟨top3, tm, ta⟩ := pickI (zs := [9, 9, 32]) v30 v31
        have tb : 9 ≤ top3 ∧ top3 ≤ 32 := by
          simp only [List.mem_cons, List.not_mem_nil, or_false] at tm
          omega
        refine ⟨q3, _, v3, _, rfl, rfl, SqL.of (O10.at (B9.free nq3).1 (B9.free nq3).2 upd_same), ta, ?_⟩
        refine ⟨b, l, _, rfl, B10, by omega, by omega, fun H11 n B11 O11 n0 n1 => ⟨_, _, rfl, rfl, _, rfl, by omega, by omega, ?_⟩⟩
        have d12 := d11.step B11 O11
        refine for_it (walk_range (lo := 0)) (fun i σ H' => ∃ (ys : List Int) (v7 v8 : Option V), σ = [some (.ref b), some (.int m), some (.ref p), some (.int (1 + d)), some (.int way), some (.int beg), some (.int stp), v7, v8] ∧ Drw H H' b l p ys ∧ ys.length = xs.length + i ∧ (∀ x ∈ ys, -9999 ≤ x ∧ x ≤ 9999))
          ⟨xs, v7, v8, rfl, d12, rfl, hx⟩ (fun _ _ _ _ _ => True.intro) ?_ ?_
        · rintro i x σ H12 H13 hi ⟨ys, v7, v8, rfl, d13, yl, yb⟩ ⟨rfl, rfl⟩
          have hi' : i < 33 := by omega
          refine ⟨_, rfl, _, rfl, _, rfl, b, l, _, rfl, d13.bx, by decide, by decide, fun H14 f1 B14 O14 f2 f3 => ⟨_, _, rfl, rfl, _, rfl, _, rfl, b, l, _, rfl, B14, by decide, by decide, fun H15 f4 B15 O15 f5 f6 => ⟨_, _, rfl, rfl, _, rfl, _, rfl, _, rfl, _, _, rfl, rfl, .inl (by constructor <;> omega), _, _, rfl, rfl, (by show 4 ≤ sizeLine; decide), fun r nr => ?_⟩⟩⟩
          have d15 := ((d13.step B14 O14).step B15 O15).same (Same.upd (o := .lst ([beg, beg + f1, beg + f4, beg + stp * (0 + (i : Int))].map V.int)) nr)
          refine ⟨_, rfl, _, rfl, _, rfl, _, _, rfl, rfl, (by show 3 ≤ sizeLine; decide), fun r2 nr2 => ?_⟩
          have d16 := d15.same (Same.upd (o := .lst ([beg, 0 - beg, 7].map V.int)) nr2)
          refine ⟨_, rfl, b, l, _, rfl, d16.bx, by decide, by decide, fun H16 v4 B16 O16 v40 v41 => ?_⟩
          have d17 := d16.step B16 O16
          obtain ⟨y4, _, ya4⟩ := pickI (zs := [beg, 0 - beg, 7]) v40 v41
          refine ⟨r2, _, v4, _, rfl, rfl, SqL.of (O16.at (d15.bx.free nr2).1 (d15.bx.free nr2).2 upd_same), ya4, ?_⟩
          refine ⟨_, rfl, b, l, _, rfl, B16, by decide, by decide, fun H17 f7 B17 O17 f8 f9 => ⟨_, _, rfl, rfl, (by show 2 ≤ sizeLine; decide), fun r3 nr3 => ?_⟩⟩
          have d18 := (d17.step B17 O17).same (Same.upd (o := .lst ([y4, f7 - 9999].map V.int)) nr3)
          obtain ⟨rb, rl⟩ := B15.free nr
          have hr0 : (upd H17 r3 (.lst ([y4, f7 - 9999].map V.int))) r = some (.lst ([beg, beg + f1, beg + f4, beg + stp * (0 + (i : Int))].map V.int)) := by
            have z1 := O16.at rb rl ((Same.upd (o := .lst ([beg, 0 - beg, 7].map V.int)) nr2) _ _ (upd_same (H := H15) (a := r) (o := .lst ([beg, beg + f1, beg + f4, beg + stp * (0 + (i : Int))].map V.int))))
            exact Same.upd nr3 _ _ (O17.at rb rl z1)
          refine ⟨r, r3, _, _, rfl, rfl, hr0, upd_same, (by show 6 ≤ sizeLine; decide), fun r4 nr4 => ?_⟩
          have d19 := d18.same (Same.upd (o := .lst (([beg, beg + f1, beg + f4, beg + stp * (0 + (i : Int))] ++ [y4, f7 - 9999]).map V.int)) nr4)
          obtain ⟨y5, _, ya5⟩ := pickI (zs := [beg, beg + f1, beg + f4, beg + stp * (0 + (i : Int))] ++ [y4, f7 - 9999]) w0 w1
          refine ⟨_, rfl, .inl ⟨rfl, _, SqL.of d19.at_⟩, _, rfl, _, rfl, _, rfl, r4, _, way, _, rfl, rfl, SqL.of upd_same, ya5, _, _, rfl, _, _, rfl, p, _, _, rfl, rfl, d19.at_, ?_, ?_⟩
          · rw [List.length_map, sizeLine_eq]
            omega
          · have e20 : (ys ++ [clip y5]).map V.int = ys.map V.int ++ [V.int (clip y5)] := List.map_append
            have d20 := d19.put (ys := ys ++ [clip y5])
            rw [e20] at d20
            refine ⟨ys ++ [clip y5], _, _, rfl, ?_, by rw [List.length_append, List.length_singleton]; omega, fun x hx' => ?_⟩
            · exact d20
            · rcases List.mem_append.mp hx' with z | z
              · exact yb x z
              · rw [List.mem_singleton.mp z]
                exact clip_in y5
        · rintro σ H12 ⟨ys, v7, v8, rfl, d13, yl, yb⟩
          refine ⟨⟨ys, _, _, _, v7, v8, rfl, d13, by omega, yb, .inr (by omega)⟩, ?_⟩
          have e1 : lenAt p H12 = ys.length := by
            unfold lenAt
            rw [d13.at_]
            exact List.length_map _
          have e2 : lenAt p H2 = xs.length := by
            unfold lenAt
            rw [d2.at_]
            exact List.length_map _
          show (1 + d - (lenAt p H12 : Int)).toNat < (1 + d - (lenAt p H2 : Int)).toNat
          rw [e1, e2]
          omega
      · have c' : ¬ (xs.length : Int) < 1 + d := fun z => c (decide_eq_true z)
        refine ⟨_, rfl, _, rfl, _, rfl, p, _, rfl, SqL.of d2.at_, fun q nq => ?_⟩
        obtain ⟨e1, e2⟩ := d2.bx.free nq
        have nqH : H q = none := by
          cases z : H q with
          | none => rfl
          | some o =>
            have z2 := d2.out q o e1 e2 z
            rw [nq] at z2
            cases z2
        obtain ⟨mm, hm⟩ : ∃ mm : Nat, 1 + d = (mm : Int) := ⟨(1 + d).toNat, by omega⟩
        have hxs : cutV (xs.map V.int) none (some (1 + d)) = (xs.take mm).map V.int := by rw [hm, cutV_take, List.map_take]
        rw [hxs]
        refine k _ q (xs.take mm) (d2.bx.same (Same.upd nq)) (d2.out.trans (.of (Same.upd nq))) nqH e1 e2 upd_same (fun z => ?_) ?_ (fun x hx' => hx x (List.mem_of_mem_take hx'))
        · have z2 := congrArg List.length z
          rw [List.length_take, List.length_nil] at z2
          omega
        · rw [List.length_take]
          omega
    · obtain ⟨v, e, p', ys, e2, h1, v2, e3, i, j, e4, e5, kk, e6, q⟩ := h
      exact ⟨v, e, p', ys, e2, h1, v2, e3, i, j, e4, e5, kk, e6, im _ _ q⟩
end
end K3

set_option linter.all false
/-! K3F: the five forms, in plain Lean -/
namespace K3
/-! ### least, greatest -/
def lmin : List Int → Int
  | [] => 0
  | [n] => n
  | n :: m :: r => if n ≤ lmin (m :: r) then n else lmin (m :: r)
def lmax : List Int → Int
  | [] => 0
  | [n] => n
  | n :: m :: r => if lmax (m :: r) ≤ n then n else lmax (m :: r)
theorem lmin_ok : ∀ {ns : List Int}, ns ≠ [] → lmin ns ∈ ns ∧ ∀ y ∈ ns, lmin ns ≤ y
  | [], h => absurd rfl h
  | [n], _ => ⟨List.mem_singleton.mpr rfl, fun y hy => by rw [List.mem_singleton.mp hy]; exact Int.le_refl _⟩
  | n :: m :: r, _ => by
    obtain ⟨h1, h2⟩ := lmin_ok (ns := m :: r) (by simp)
    show (if n ≤ lmin (m :: r) then n else lmin (m :: r)) ∈ n :: m :: r ∧ ∀ y ∈ n :: m :: r, (if n ≤ lmin (m :: r) then n else lmin (m :: r)) ≤ y
    split
    · rename_i c
      refine ⟨List.mem_cons_self .., fun y hy => ?_⟩
      rcases List.mem_cons.mp hy with z | z
      · omega
      · have := h2 y z; omega
    · rename_i c
      refine ⟨List.mem_cons_of_mem _ h1, fun y hy => ?_⟩
      rcases List.mem_cons.mp hy with z | z
      · omega
      · exact h2 y z
theorem lmax_ok : ∀ {ns : List Int}, ns ≠ [] → lmax ns ∈ ns ∧ ∀ y ∈ ns, y ≤ lmax ns
  | [], h => absurd rfl h
  | [n], _ => ⟨List.mem_singleton.mpr rfl, fun y hy => by rw [List.mem_singleton.mp hy]; exact Int.le_refl _⟩
  | n :: m :: r, _ => by
    obtain ⟨h1, h2⟩ := lmax_ok (ns := m :: r) (by simp)
    show (if lmax (m :: r) ≤ n then n else lmax (m :: r)) ∈ n :: m :: r ∧ ∀ y ∈ n :: m :: r, y ≤ (if lmax (m :: r) ≤ n then n else lmax (m :: r))
    split
    · rename_i c
      refine ⟨List.mem_cons_self .., fun y hy => ?_⟩
      rcases List.mem_cons.mp hy with z | z
      · omega
      · have := h2 y z; omega
    · rename_i c
      refine ⟨List.mem_cons_of_mem _ h1, fun y hy => ?_⟩
      rcases List.mem_cons.mp hy with z | z
      · omega
      · exact h2 y z
theorem lmin_eq {ns : List Int} {m : Int} (h1 : m ∈ ns) (h2 : ∀ y ∈ ns, m ≤ y) : m = lmin ns := by
  obtain ⟨a, b⟩ := lmin_ok (List.ne_nil_of_mem h1)
  exact Int.le_antisymm (h2 _ a) (b _ h1)
theorem lmax_eq {ns : List Int} {m : Int} (h1 : m ∈ ns) (h2 : ∀ y ∈ ns, y ≤ m) : m = lmax ns := by
  obtain ⟨a, b⟩ := lmax_ok (List.ne_nil_of_mem h1)
  exact Int.le_antisymm (b _ h1) (h2 _ a)
/-! ### the rising list of what comes -/
def ins (x : Int) : List Int → List Int
  | [] => [x]
  | y :: r => if x < y then x :: y :: r else if x = y then y :: r else y :: ins x r
def usort (ns : List Int) : List Int := ns.foldr ins []
theorem mem_ins (x k : Int) : ∀ l, k ∈ ins x l ↔ k = x ∨ k ∈ l
  | [] => by simp [ins]
  | y :: r => by
    have ih := mem_ins x k r
    unfold ins
    split
    · simp
    · split
      · rename_i c d
        subst d
        simp
      · rw [List.mem_cons, ih, List.mem_cons]
        constructor
        · rintro (a | a | a)
          · exact .inr (.inl a)
          · exact .inl a
          · exact .inr (.inr a)
        · rintro (a | a | a)
          · exact .inr (.inl a)
          · exact .inl a
          · exact .inr (.inr a)
theorem ins_rises (x : Int) : ∀ {l}, l.Pairwise (· < ·) → (ins x l).Pairwise (· < ·)
  | [], _ => List.pairwise_singleton _ _
  | y :: r, h => by
    obtain ⟨h1, h2⟩ := List.pairwise_cons.mp h
    unfold ins
    split
    · rename_i c
      refine List.pairwise_cons.mpr ⟨fun z hz => ?_, h⟩
      rcases List.mem_cons.mp hz with e | e
      · omega
      · have := h1 z e; omega
    · split
      · exact h
      · rename_i c d
        refine List.pairwise_cons.mpr ⟨fun z hz => ?_, ins_rises x h2⟩
        rcases (mem_ins x z r).mp hz with e | e
        · omega
        · exact h1 z e
theorem mem_usort (k : Int) : ∀ ns, k ∈ usort ns ↔ k ∈ ns
  | [] => Iff.rfl
  | n :: r => by
    show k ∈ ins n (usort r) ↔ _
    rw [mem_ins, mem_usort k r, List.mem_cons]
theorem usort_rises : ∀ ns, (usort ns).Pairwise (· < ·)
  | [] => List.Pairwise.nil
  | n :: r => ins_rises n (usort_rises r)
theorem rises_eq : ∀ {a b : List Int}, a.Pairwise (· < ·) → b.Pairwise (· < ·) → (∀ k, k ∈ a ↔ k ∈ b) → a = b
  | [], [], _, _, _ => rfl
  | [], y :: b, _, _, h => absurd ((h y).mpr (List.mem_cons_self ..)) (by simp)
  | x :: a, [], _, _, h => absurd ((h x).mp (List.mem_cons_self ..)) (by simp)
  | x :: a, y :: b, ha, hb, h => by
    obtain ⟨h1, h2⟩ := List.pairwise_cons.mp ha
    obtain ⟨h3, h4⟩ := List.pairwise_cons.mp hb
    have e : x = y := by
      rcases List.mem_cons.mp ((h x).mp (List.mem_cons_self ..)) with z | z
      · exact z
      · rcases List.mem_cons.mp ((h y).mpr (List.mem_cons_self ..)) with z2 | z2
        · exact z2.symm
        · have := h3 x z
          have := h1 y z2
          omega
    subst e
    rw [rises_eq h2 h4 fun k => ?_]
    constructor
    · intro hk
      rcases List.mem_cons.mp ((h k).mp (List.mem_cons_of_mem _ hk)) with z | z
      · have := h1 k hk
        omega
      · exact z
    · intro hk
      rcases List.mem_cons.mp ((h k).mpr (List.mem_cons_of_mem _ hk)) with z | z
      · have := h3 k hk
        omega
      · exact z
theorem usort_eq {ns u : List Int} (h : u.Pairwise (· < ·)) (m : ∀ k, k ∈ u ↔ k ∈ ns) : u = usort ns := rises_eq h (usort_rises ns) fun k => (m k).trans (mem_usort k ns).symm
theorem ins_length (x : Int) : ∀ l, (ins x l).length ≤ l.length + 1
  | [] => Nat.le_refl _
  | y :: r => by
    have ih := ins_length x r
    unfold ins
    split
    · simp
    · split
      · simp
      · simp; omega
theorem usort_length : ∀ ns, (usort ns).length ≤ ns.length
  | [] => Nat.le_refl _
  | n :: r => by
    have h1 := ins_length n (usort r)
    have h2 := usort_length r
    show (ins n (usort r)).length ≤ r.length + 1
    omega
theorem usort_ne {ns : List Int} (h : ns ≠ []) : usort ns ≠ [] := by
  obtain ⟨n, r, rfl⟩ : ∃ n r, ns = n :: r := by
    cases ns with
    | nil => exact absurd rfl h
    | cons n r => exact ⟨n, r, rfl⟩
  intro e
  have := (mem_usort n (n :: r)).mpr (List.mem_cons_self ..)
  rw [e] at this
  cases this
/-- the place of a value among those that come -/
def idx (l : List Int) (v : Int) : Nat := l.findIdx (· == v)
theorem idx_lt {l : List Int} {v : Int} (h : v ∈ l) : idx l v < l.length := List.findIdx_lt_length_of_exists ⟨v, h, beq_self_eq_true v⟩
theorem idx_get {l : List Int} {v : Int} (h : v ∈ l) : l[idx l v]? = some v := by
  have hl := idx_lt h
  rw [List.getElem?_eq_getElem hl]
  have e := List.findIdx_getElem (xs := l) (p := (· == v)) (w := hl)
  exact congrArg some (eq_of_beq e)
theorem idx_first {l : List Int} {v : Int} {m : Nat} (h : m < idx l v) : l[m]? ≠ some v := by
  intro e
  obtain ⟨hl, ex⟩ := List.getElem?_eq_some_iff.mp e
  have := List.not_of_lt_findIdx (xs := l) (p := (· == v)) h
  rw [ex] at this
  rw [beq_self_eq_true] at this
  cases this
/-! ### the forms -/
inductive Form where
  | plain (vs : List Int)
  | one (n : Nat) (v : Int)
  | codes (n : Nat) (u c : List Int)
  | near (n : Nat) (l s : Int) (c : List Int)
  | steps (n : Nat) (f l s : Int) (c : List Int)
def room : Form → Nat
  | .plain vs => 1 + vs.length
  | .one _ _ => 3
  | .codes _ u c => 2 + u.length + c.length
  | .near _ _ _ c => 4 + c.length
  | .steps _ _ _ _ c => 5 + c.length
def packedFrom (low span : Int) (ns : List Int) : List Int := if span = 0 then [] else packed (span + 1) (ns.map (· - low))
def mkPlain (vs : List Int) : Option Form := some (.plain vs)
def mkOne (vs : List Int) : Option Form := if lmin vs < lmax vs then none else some (.one vs.length (vs.headD 0))
def mkCodes (vs : List Int) : Option Form := if (usort vs).length < 2 then none else some (.codes vs.length (usort vs) (packed (usort vs).length (vs.map fun v => (idx (usort vs) v : Int))))
def mkNear (vs : List Int) : Option Form := if lmax vs - lmin vs < 1 ∨ 9999 < lmax vs - lmin vs then none else some (.near vs.length (lmin vs) (lmax vs - lmin vs) (packedFrom (lmin vs) (lmax vs - lmin vs) vs))
/-- each value less the one ahead -/
def steps : List Int → List Int
  | [] => []
  | [_] => []
  | n :: m :: r => (m - n) :: steps (m :: r)
def mkSteps (vs : List Int) : Option Form :=
  if vs.length < 2 then none else if 9999 < lmax (steps vs) - lmin (steps vs) then none else
    some (.steps vs.length (vs.headD 0) (lmin (steps vs)) (lmax (steps vs) - lmin (steps vs)) (packedFrom (lmin (steps vs)) (lmax (steps vs) - lmin (steps vs)) (steps vs)))
def unpacked (b : Int) (cs : List Int) (n : Nat) : List Int := (cs.flatMap (digits b (perC b))).take n
def unpackedFrom (low span : Int) (cs : List Int) (n : Nat) : List Int := if span = 0 then List.replicate n low else (unpacked (span + 1) cs n).map (low + ·)
/-- summed up from v -/
def runs (v : Int) : List Int → List Int
  | [] => [v]
  | s :: r => v :: runs (v + s) r
def readF : Form → List Int
  | .plain vs => vs
  | .one n v => List.replicate n v
  | .codes n u c => (unpacked u.length c n).map fun k => u.getD k.toNat 0
  | .near n l s c => unpackedFrom l s c n
  | .steps n f l s c => runs f (unpackedFrom l s c (n - 1))
/-! ### what is laid down is read again -/
theorem unpackedFrom_eq {low span : Int} {ns : List Int} (h0 : 0 ≤ span) (h1 : span ≤ 9999) (h : ∀ n ∈ ns, low ≤ n ∧ n ≤ low + span) : unpackedFrom low span (packedFrom low span ns) ns.length = ns := by
  unfold unpackedFrom packedFrom
  by_cases c : span = 0
  · rw [if_pos c]
    subst c
    refine (List.eq_replicate_iff.mpr ⟨rfl, fun n hn => ?_⟩).symm
    have := h n hn
    omega
  · rw [if_neg c, if_neg c]
    have e : unpacked (span + 1) (packed (span + 1) (ns.map (· - low))) ns.length = ns.map (· - low) := by
      have q := unpacked_packed (b := span + 1) (by omega) (ns.map (· - low)) fun n hn => by
        obtain ⟨m, hm, rfl⟩ := List.mem_map.mp hn
        have := h m hm
        constructor <;> omega
      rw [List.length_map] at q
      exact q
    rw [e, List.map_map]
    have e2 : ((low + ·) ∘ (· - low) : Int → Int) = id := by
      funext n
      show low + (n - low) = n
      omega
    rw [e2, List.map_id]
theorem runs_steps : ∀ (n : Int) (r : List Int), runs n (steps (n :: r)) = n :: r
  | n, [] => rfl
  | n, m :: r => by
    show n :: runs (n + (m - n)) (steps (m :: r)) = n :: m :: r
    have e : n + (m - n) = m := by omega
    rw [e, runs_steps m r]
theorem steps_length : ∀ vs : List Int, (steps vs).length = vs.length - 1
  | [] => rfl
  | [_] => rfl
  | _ :: m :: r => by
    show (steps (m :: r)).length + 1 = (r.length + 1 + 1) - 1
    rw [steps_length (m :: r)]
    simp
theorem steps_ne {vs : List Int} (h : ¬ vs.length < 2) : steps vs ≠ [] := fun e => by
  have := steps_length vs
  rw [e] at this
  simp at this
  omega
theorem between {ns : List Int} (h : ns ≠ []) : ∀ n ∈ ns, lmin ns ≤ n ∧ n ≤ lmin ns + (lmax ns - lmin ns) := fun n hn => by
  have h1 := (lmin_ok h).2 n hn
  have h2 := (lmax_ok h).2 n hn
  omega
theorem span_nn {ns : List Int} (h : ns ≠ []) : 0 ≤ lmax ns - lmin ns := by
  have h1 := (lmin_ok h).2 _ (lmax_ok h).1
  omega
theorem read_one {vs : List Int} {F : Form} (hv : vs ≠ []) (h : mkOne vs = some F) : readF F = vs := by
  unfold mkOne at h
  split at h
  · cases h
  · rename_i c
    cases h
    refine (List.eq_replicate_iff.mpr ⟨rfl, fun n hn => ?_⟩).symm
    have h1 := between hv n hn
    cases vs with
    | nil => exact absurd rfl hv
    | cons m r =>
      have h2 := between hv m (List.mem_cons_self ..)
      show n = m
      omega
theorem read_codes {vs : List Int} {F : Form} (hl : vs.length ≤ 32) (h : mkCodes vs = some F) : readF F = vs := by
  unfold mkCodes at h
  split at h
  · cases h
  · cases h
    have hu := usort_length vs
    have e : unpacked ((usort vs).length : Int) (packed ((usort vs).length : Int) (vs.map fun v => (idx (usort vs) v : Int))) vs.length = vs.map fun v => (idx (usort vs) v : Int) := by
      have q := unpacked_packed (b := ((usort vs).length : Int)) (by omega) (vs.map fun v => (idx (usort vs) v : Int)) fun n hn => by
        obtain ⟨m, hm, rfl⟩ := List.mem_map.mp hn
        have := idx_lt ((mem_usort m vs).mpr hm)
        omega
      rw [List.length_map] at q
      exact q
    show (unpacked ((usort vs).length : Int) _ vs.length).map _ = vs
    rw [e, List.map_map]
    refine (List.map_congr_left fun v hv => ?_).trans (List.map_id vs)
    have := idx_get ((mem_usort v vs).mpr hv)
    show (usort vs).getD (idx (usort vs) v : Int).toNat 0 = v
    rw [Int.toNat_natCast, List.getD_eq_getElem?_getD, this]
    rfl
theorem read_near {vs : List Int} {F : Form} (hv : vs ≠ []) (h : mkNear vs = some F) : readF F = vs := by
  unfold mkNear at h
  split at h
  · cases h
  · rename_i c
    cases h
    exact unpackedFrom_eq (span_nn hv) (by omega) (between hv)
theorem read_steps {vs : List Int} {F : Form} (h : mkSteps vs = some F) : readF F = vs := by
  unfold mkSteps at h
  split at h
  · cases h
  · rename_i c0
    split at h
    · cases h
    · rename_i c
      cases h
      have hs := steps_ne c0
      cases vs with
      | nil => exact absurd (show ([] : List Int).length < 2 by decide) c0
      | cons m r =>
        show runs m (unpackedFrom _ _ _ ((m :: r).length - 1)) = m :: r
        rw [← steps_length, unpackedFrom_eq (span_nn hs) (by omega) (between hs)]
        exact runs_steps m r
end K3

set_option Elab.async false
set_option linter.all false
set_option maxRecDepth 100000
set_option maxHeartbeats 4000000
/-! K3R: rules of my own: t.index of ints, the keys of a module's table, set(list of ints) -/
namespace K3
open PySem PySem.Spec PyProof.Rows L2
/-! ### t.index(k) -/
def rTix (K : PySem.W.Frag) : V → List V → Hp → VK → Prop := fun x xs H Q => ∃ (p : Addr) (ns : List Int) (k : Int) (j : Nat), x = .ref p ∧ xs = [.int k] ∧ SqT K H p (ns.map V.int) ∧ ns[j]? = some k ∧ (∀ m, m < j → ns[m]? ≠ some k) ∧ Q (.int (j : Nat)) H
theorem flat_ints (ns : List Int) : (ns.map V.int).all flatV = true := by
  rw [List.all_map]
  exact List.all_eq_true.mpr fun _ _ => rfl
theorem mt_tixI {X : Cx} : MtR X "tuple.index" (rTix X.K) := by
  intro pins s σ H x xs v us Q I rx rs ⟨p, ns, k, j, ex, exs, hq, hy, hno, q⟩
  subst ex exs
  cases rx
  obtain ⟨u, rfl, tk, rfl⟩ := vals1 rs
  obtain ⟨its, r, pl, hz⟩ := I.tuple hq
  obtain ⟨⟨c0, d0, dat, sl⟩, ho, hc, n, hd⟩ := pl
  subst hc hd
  have hlen : its.toArray.size = ns.length := by
    have e := r.length
    rw [List.length_map] at e
    rw [List.size_toArray, e]
  have hjn : j < ns.length := (List.getElem?_eq_some_iff.mp hy).1
  have item : ∀ (m : Nat) (hm : m < its.toArray.size), ∃ y tt, ns[m]? = some y ∧ its.toArray[m] = Value.int y tt := fun m hm => by
    have hm' : m < ns.length := by omega
    obtain ⟨z, hz2, tt, ez⟩ := r.get (i := m) (x := .int ns[m]) (by rw [List.getElem?_map, List.getElem?_eq_getElem hm']; rfl)
    refine ⟨ns[m], tt, List.getElem?_eq_getElem hm', ?_⟩
    have e := (List.getElem?_eq_some_iff.mp hz2).2
    rw [← ez, ← e, List.getElem_toArray]
  have hj : j < its.toArray.size := by omega
  have M := TI.tuple_indexAt p its.toArray n d0 sl (.int k tk) (eqU (.int k)) j hj (by
    obtain ⟨y, tt, e1, e2⟩ := item j hj
    rw [hy] at e1
    rw [e2, ← Option.some.inj e1]
    exact beq_self_eq_true k) (fun m hm hmj => by
    obtain ⟨y, tt, e1, e2⟩ := item m hm
    rw [e2]
    exact beq_eq_false_iff_ne.mpr fun e => hno m hmj (e ▸ e1))
  exact call_meets PySem.F.slot_tuple_index ⟨_, ho, rfl⟩ PySem.F.entry_tuple_index (PySem.F.args_tuple_index_2 _ _) M
    ⟨ho, fun z hz2 => mem_eqAt (x := .int k) ⟨tk, rfl⟩ rfl r (flat_ints ns) z (by rw [← Array.mem_toList_iff] at hz2; exact hz2), ⟨.int (j : Nat), H, I.tok _, ⟨_, rfl⟩, q⟩⟩
/-! ### for k in TABLE, TABLE a dict of the module with text keys -/
/-- at d: a written dict whose keys are ks, in turn -/
structure KKeys (K : PySem.W.Frag) (w : World) (d : Addr) (ks : List Str) : Prop where
  ex : ∃ (es : Array DictEntry) (n : Nat), KDict K w d es n ∧ es.toList.map He.keyOf = He.keysIn w.params ks
def Itks (ks : List Str) : It := ⟨fun i _ => i < ks.length, fun i H x H' => H' = H ∧ ∃ z, ks[i]? = some z ∧ x = .str z, fun i _ => ks.length ≤ i⟩
theorem walk_ks {ks : List Str} : Walk (Itks ks) ks.length (fun _ => True) (fun i H x H' => H' = H ∧ ∃ z, ks[i]? = some z ∧ x = .str z) :=
  ⟨fun _ _ hi _ => hi, fun _ _ => Nat.le_refl _, fun _ _ _ _ _ _ y => y⟩
theorem key_at {w : World} {l : List DictEntry} {ks : List Str} (h : l.map He.keyOf = He.keysIn w.params ks) {i : Nat} {z : Str} (hz : ks[i]? = some z) : ∃ en t, l[i]? = some en ∧ en.key = Value.str z t := by
  have e : (l.map He.keyOf)[i]? = (He.keysIn w.params ks)[i]? := by rw [h]
  unfold He.keysIn at e
  rw [List.getElem?_map, List.getElem?_map, hz] at e
  cases q : l[i]? with
  | none =>
    rw [q] at e
    cases e
  | some en =>
    rw [q] at e
    have e2 : He.keyOf en = some (z, PyData.keyHash w.params z) := Option.some.inj e
    unfold He.keyOf at e2
    split at e2
    · rename_i x t hk
      have e3 := (Prod.mk.inj (Option.some.inj e2)).1
      exact ⟨en, t, rfl, by rw [hk, e3]⟩
    · cases e2
theorem turn_ks {P : Program} {w : World} {K : PySem.W.Frag} {tg : Expr} {d : Addr} {es : Array DictEntry} {n : Nat} {ks : List Str} (it : Addr) (D : K.lookup d = some ⟨.type "dict", none, .dict es n, #[]⟩) (hk : es.toList.map He.keyOf = He.keysIn w.params ks) :
    Turn P w K tg (Itks ks) [it] it (fun i h => h.IsKeyIter it d i ks.length n) := by
  have hsz : es.size = ks.length := by
    have e := congrArg List.length hk
    unfold He.keysIn at e
    rw [List.length_map, List.length_map, Array.length_toList] at e
    exact e
  have one : it ∈ [it] := List.mem_singleton.mpr rfl
  refine ⟨one, fun i h st b hb => ?_, fun i h h' ⟨oi, e, r⟩ k => ⟨oi, k it one oi e, r⟩, ?_, ?_, fun A i s Q E st h => wpAny_pyIter_keyiter st h⟩
  · obtain rfl := List.mem_singleton.mp hb
    obtain ⟨oi, e, _, dd⟩ := st
    exact ⟨oi, e, fun v z => by rw [dd] at z; cases z⟩
  · intro X hP hw hK hc i pins s σ H E I hf st hi
    subst hP hw hK
    obtain ⟨f0, f1, f2, f3, f4, f5⟩ := hf it one
    have hi' : i < ks.length := hi
    obtain ⟨en, t, hen, ek⟩ := key_at hk (List.getElem?_eq_getElem hi')
    refine next_key_item st (I.kIn _ _ D) rfl hsz (by rw [← hen, Array.getElem?_toList]) fun h' st' sb => ?_
    have I1 := I.turned (t' := s.toks) (h' := h') (fun b ob hb e => (sb.2 b hb).trans e) f0 f1 f3 f4 f5
    obtain ⟨oi, e, c, dd⟩ := id st'
    exact ⟨en.key, rfl, go_of (s := { s with heap := h' }) e c dd (by decide) ⟨.str ks[i], H, I1, ⟨t, ek⟩, ⟨rfl, _, List.getElem?_eq_getElem hi', rfl⟩, st', fun b hb => (hf b hb).1⟩⟩
  · intro X hP hw hK hc i pins s σ H E I hf st hi
    subst hP hw hK
    obtain ⟨f0, f1, f2, f3, f4, f5⟩ := hf it one
    exact next_key_end (I.ok.hd hc) st (I.kIn _ _ D) rfl hsz hi fun h' eb => ⟨rfl, I.turned (t' := s.toks) (fun b ob hb e => eb b ob hb e) f0 f1 f3 f4 f5⟩
def iKs (K : PySem.W.Frag) (w : World) (td : TE) : TI := fun σ H R => td σ H fun x H1 => ∃ d ks, x = .ref d ∧ KKeys K w d ks ∧ R (Itks ks) H1
theorem pi_ks {X : Cx} {tg e : Expr} {td : TE} (he : PE X e td) : PI X tg e (iKs X.K X.w td) := by
  refine ⟨fun pins s σ H R I h => ?_⟩
  refine thn (he.run pins s σ H _ I h) fun u s1 ⟨x, H1, I1, rx, d, ks, ex, KS, q⟩ => ?_
  subst ex
  obtain rfl : u = Value.ref d := rx
  obtain ⟨es, n, D, hk⟩ := KS.ex
  have hsz : es.size = ks.length := by
    have e := congrArg List.length hk
    unfold He.keysIn at e
    rw [List.length_map, List.length_map, Array.length_toList] at e
    exact e
  refine iter_keys D.low (I1.kIn _ _ D.at_) ⟨rfl, rfl, rfl⟩ rfl (pi_one (tk := s1.toks) I1 _ (turn_ks _ D.at_ hk) ⟨_, Heap.get?_push_size _ rfl, rfl, ?_⟩ q)
  rw [hsz] <;> rfl
/-! ### set(list of ints) -/
/-- the set just laid -/
def set0 (w : World) : Obj := { cls := .type "set", dict := none, data := .set #[] 0 (.fresh 0 0 (!w.params.followText "set-order")) }
/-- what set.__init__ leaves -/
def SetMade (w : World) (s : Shared) (ns : List Int) (r : Value) (s2 : Shared) : Prop := r = .none ∧ ∃ h' tk c, s2 = { s with heap := h', toks := tk } ∧ SetR w h' s.heap.objs.size (fun j => decide (j ∈ ns)) c ∧ c ≤ ns.length ∧ ∀ b o, s.heap.get? b = some o → h'.get? b = some o
section
variable {P : Program} {w : World} {A : Around} {E : Value → Shared → Prop} {s : Shared}
theorem call_setL {l : Addr} {items : Array Value} (ns : List Int) {Q : Value → Shared → Prop} (hh : A.handled = none) (hl : s.heap.IsList l items) (hit : IntsAre items.toList ns) (hb : ns.length + 1 < scanBound)
    (h : ∀ (h' : Heap) (tk c : Nat), SetR w h' s.heap.objs.size (fun j => decide (j ∈ ns)) c → c ≤ ns.length → (∀ b o, s.heap.get? b = some o → h'.get? b = some o) → Q (.ref s.heap.objs.size) { s with heap := h', toks := tk }) :
    wpAny (model P w) A (call (.type "set") [.ref l]) Q E s := by
  have hn : items.size = ns.length := by
    have q := IntsAre.length hit
    rwa [Array.length_toList] at q
  obtain ⟨c, tl, hmro⟩ := F.called_set.mro
  have hmade := F.called_set.made
  have hsub := F.called_set.sub
  have h1 := F.called_set.notType
  have h2 := F.called_set.canCreate
  have hct := F.typeCall_set_1 (.ref l)
  refine wpAny_call (codeAny_of_tree ?_)
  show wpAny _ _ (callAny (.type "set") _) _ _ _
  refine wpAny_pure ⟨Code.quiet_builtin _ (by decide +kernel), codeAny_builtin F.entry_type_call ?_⟩
  rw [Around.under_plain (weight_type_call_type "set" [.ref l] []) rfl]
  repeat (any_goals (first | assumption | wp_step))
  refine codeAny_mono (code_set_led1 (.ref l) (E := E) (Q₁ := fun u s1 => u = .ref s.heap.objs.size ∧ s1 = { s with heap := s.heap.push (set0 w) }) ⟨rfl, rfl⟩) fun r s1 hr => ?_
  have hS : (s.heap.push (set0 w)).get? s.heap.objs.size = some (set0 w) := Heap.get?_push_size _ rfl
  have hT : Shared.TypeIs { s with heap := s.heap.push (set0 w) } (.ref s.heap.objs.size) "set" := ⟨_, hS, rfl⟩
  rcases r with er | fl
  · exact hr
  cases fl with
  | next => exact hr.elim
  | brk => exact hr.elim
  | cont => exact hr.elim
  | ret u =>
    obtain ⟨rfl, rfl⟩ := hr
    have hli := F.called_set.init.lookup
    have hbi := F.called_set.init.bind (.ref s.heap.objs.size)
    repeat (any_goals (first | assumption | wp_step))
    refine codeAny_mono (codeAny_call_builtin (R := wants (SetMade w s ns) E) F.called_set.init.plain F.entry_set_init (check_set_init_1 hT ?_)) fun r2 s2 hr2 => ?_
    · obtain ⟨⟨ocls, odict, odata, oslots⟩, hol, hcl, nl, hdl⟩ := hl
      simp only at hcl hdl
      subst hcl hdl
      have hlS : l < s.heap.objs.size := Heap.lt_size hol
      have hl1 : (s.heap.push (set0 w)).IsList l items := ⟨_, Heap.get?_push_of_some _ hol, rfl, nl, rfl⟩
      have hol' : (s.heap.push (set0 w)).get? l = some ⟨.type "list", odict, .seq items nl, oslots⟩ := Heap.get?_push_of_some _ hol
      have hsls := F.sub_list_set
      have hslf := F.sub_list_frozenset
      have hne : (Value.type "list" == Value.type "dict") = false := by decide
      unfold Builtin.«set.__init__» noKeywords Builtin.Frozenset.updateFrom
      generalize hPI : pyIter = PI
      wp_walk
      subst hPI
      have hz : (s.heap.push (set0 w)).objs.size = s.heap.objs.size + 1 := Heap.size_push ..
      have ne1 : l ≠ (s.heap.push (set0 w)).objs.size := Nat.ne_of_lt (by rw [hz]; exact Nat.lt_succ_of_lt hlS)
      have ne2 : s.heap.objs.size ∉ [(s.heap.push (set0 w)).objs.size, l] := fun z => by
        rcases List.mem_cons.mp z with z | z
        · rw [hz] at z
          exact absurd z (Nat.ne_of_lt (Nat.lt_succ_self _))
        · exact absurd (List.mem_singleton.mp z).symm (Nat.ne_of_lt hlS)
      have hd3 : A.in1.in1.in1.handled = none := by simp [hh]
      have hval : ∀ (i : Nat) (v : Value), items[i]? = some v → ∃ k t, ns[i]? = some k ∧ v = .int k t := fun i v hv => by
        have hi : i < ns.length := hn ▸ (Array.getElem?_eq_some_iff.mp hv).1
        obtain ⟨t, e⟩ := IntsAre.int_at hit i v (by rw [Array.getElem?_toList]; exact hv)
        exact ⟨ns[i], t, List.getElem?_eq_getElem hi, by rw [e, List.getD_eq_getElem?_getD, List.getElem?_eq_getElem hi]; rfl⟩
      refine iter_any hl1 fun s2 e2 st2 _ => ?_
      subst e2
      refine wpAny_bind (wpAny_runValue (set_update_ints (Walks.list hd3 _ l ne1 items).toS s.heap.objs.size ne2 ns hn hb hval items.size 0 _ (Nat.sub_zero _) (Nat.zero_le _) st2
        ⟨0, Nat.le_refl 0, setR_new_at (Heap.get?_push_of_some _ hS)⟩ fun s3 c3 mv hc3 R3 => ?_))
      obtain ⟨h3, g3, d3, t3, o3⟩ := s3
      obtain rfl : g3 = s.gens := mv.gens
      obtain rfl : d3 = s.drawn := mv.drawn
      obtain rfl : o3 = s.os := mv.os
      show wpAny _ _ (pure ()) _ _ _
      refine wpAny_pure ?_
      show wpAny _ _ (ret Value.none) _ _ _
      refine wpAny_pure ⟨rfl, h3, t3, c3, rfl, R3, hn ▸ hc3, fun b o e => ?_⟩
      have hb0 : b < s.heap.objs.size := Heap.lt_size e
      refine mv.heap b o (fun z => ?_) (Heap.get?_push_of_some _ (Heap.get?_push_of_some _ e))
      rcases List.mem_cons.mp z with z | z
      · exact absurd z (Nat.ne_of_lt hb0)
      · have z2 := List.mem_singleton.mp z
        rw [hz] at z2
        exact absurd z2 (Nat.ne_of_lt (Nat.lt_succ_of_lt hb0))
    · rcases r2 with er | fl
      · exact hr2
      cases fl with
      | next => exact hr2.elim
      | brk => exact hr2.elim
      | cont => exact hr2.elim
      | ret u =>
        obtain ⟨rfl, h', tk, cc, rfl, hS', hc', hk'⟩ := hr2
        repeat (any_goals (first | assumption | wp_step))
        exact h _ _ _ hS' hc' hk'
end
def rSetL' (K : PySem.W.Frag) (w : World) : List V → Hp → VK → Prop := fun vs H Q => ∃ (a : Addr) (ns : List Int), vs = [V.ref a] ∧ SqL K H a (ns.map V.int) ∧ ns.length < 64 ∧
  ∀ (p : Addr) (n : Nat) (ks : List Int), H p = none → n ≤ ns.length → ks.Nodup → (∀ k, k ∈ ks ↔ k ∈ ns) → ks.length = n → Q (.ref p) (upd H p (SetO w p (fun j => decide (j ∈ ns)) n))
theorem cr_setL {X : Cx} (hc : X.calm = true) : CallR X (.type "set") (rSetL' X.K X.w) := by
  intro pins s σ H vs us Q I r ⟨a, ns, ev, hq, h64, q⟩
  subst ev
  rw [Vals.ref1 r]
  obtain ⟨its, rv, pl, hz⟩ := I.list hq
  refine call_setL (P := X.prog) ns (I.ok.hd hc) pl.isList (by simpa using ints_of_vals rv) (by unfold scanBound; omega) fun h' tk c R hcn k => ?_
  have J : Inv X pins σ (upd H s.heap.objs.size (SetO X.w s.heap.objs.size (fun j => decide (j ∈ ns)) c)) { s with heap := h', toks := tk } := I.laid k (Nat.le_refl _) (setO_new R)
  obtain ⟨o, es, ep, t, ho, hex, hd, g, nd, hm, hb, hf, hn, hr, hl⟩ := R
  refine ⟨.ref _, _, J, rfl, q _ c (es.toList.map keyOf) (I.hok.fresh (Nat.le_refl _)) hcn nd (fun k => ?_) (by rw [List.length_map, Array.length_toList, hn])⟩
  rw [← hm k, decide_eq_true_eq]
/-- len of a set -/
theorem cr_lenSet {X : Cx} : CallR X (.builtin "len") (fun vs H Q => ∃ (a : Addr) (S : Int → Bool) (n : Nat), vs = [V.ref a] ∧ H a = some (SetO X.w a S n) ∧ n < 64 ∧ Q (.int (n : Nat)) H) := by
  intro pins s σ H vs us Q I r ⟨a, S, n, ev, ha, h64, q⟩
  subst ev
  rw [Vals.ref1 r]
  obtain ⟨o, es, ep, t, ho, hex, hd, g, nd, hm, hb, hf, hn, hr, hl⟩ := setO_get I ha
  exact call_len_set ho hex hd hf (by rw [hn]; omega) ⟨.int (n : Nat), H, I.tok _, ⟨_, by rw [hn]⟩, q⟩
end K3

set_option Elab.async false
set_option linter.all false
set_option maxRecDepth 100000
set_option maxHeartbeats 4000000
namespace K3
open PySem PySem.Spec PyProof.Rows L2
theorem ix_listK {X : Cx} {K : PySem.W.Frag} (e : X.K = K) : IxR X (rIxL K) := by
  subst e
  exact ix_list
theorem ix_tupK {X : Cx} {K : PySem.W.Frag} (e : X.K = K) : IxR X (rIxT K) := by
  subst e
  exact ix_tup
theorem mt_tixK {X : Cx} {K : PySem.W.Frag} (e : X.K = K) : MtR X "tuple.index" (rTix K) := by
  subst e
  exact mt_tixI
theorem flatten_one {x : V} : ∀ n : Nat, (List.replicate n [x]).flatten = List.replicate n x
  | 0 => rfl
  | n + 1 => by
    rw [List.replicate_succ, List.flatten_cons, flatten_one n, List.replicate_succ]
    rfl
theorem step_at {ns : List Int} {i : Nat} {x y : Int} : ns[i]? = some x → ns[i + 1]? = some y → (steps ns)[i]? = some (y - x) := by
  induction ns generalizing i with
  | nil => intro h; simp at h
  | cons n r ih =>
    intro h1 h2
    cases r with
    | nil => simp at h2
    | cons m q =>
      cases i with
      | zero =>
        obtain rfl : n = x := by simpa using h1
        obtain rfl : m = y := by simpa using h2
        rfl
      | succ i => exact ih (i := i) (by simpa using h1) (by simpa using h2)
/-- values as the document has them -/
structure Good (ns : List Int) : Prop where
  ne : ns ≠ []
  few : ns.length ≤ 32
  inn : ∀ n ∈ ns, -9999 ≤ n ∧ n ≤ 9999
/-- at a the form F -/
def IsF (K : PySem.W.Frag) (H : Hp) (a : Addr) : Form → Prop
  | .plain vs => ∃ q, SqT K H a [.str "plain", .ref q] ∧ SqT K H q (vs.map V.int)
  | .one n v => SqT K H a [.str "one", .int (n : Int), .int v]
  | .codes n u c => ∃ q r, SqT K H a [.str "codes", .int (n : Int), .ref q, .ref r] ∧ SqT K H q (u.map V.int) ∧ SqT K H r (c.map V.int)
  | .near n l s c => ∃ r, SqT K H a [.str "near", .int (n : Int), .int l, .int s, .ref r] ∧ SqT K H r (c.map V.int)
  | .steps n f l s c => ∃ r, SqT K H a [.str "steps", .int (n : Int), .int f, .int l, .int s, .ref r] ∧ SqT K H r (c.map V.int)
theorem IsF.same {K : PySem.W.Frag} {H H' : Hp} {a : Addr} {F : Form} (h : IsF K H a F) (s : Same H H') : IsF K H' a F := by
  cases F with
  | plain vs => obtain ⟨q, h1, h2⟩ := h; exact ⟨q, s.seqT h1, s.seqT h2⟩
  | one n v => exact s.seqT (show SqT K H a _ from h)
  | codes n u c => obtain ⟨q, r, h1, h2, h3⟩ := h; exact ⟨q, r, s.seqT h1, s.seqT h2, s.seqT h3⟩
  | near n l sp c => obtain ⟨r, h1, h2⟩ := h; exact ⟨r, s.seqT h1, s.seqT h2⟩
  | steps n f l sp c => obtain ⟨r, h1, h2⟩ := h; exact ⟨r, s.seqT h1, s.seqT h2⟩
/-- a tuple of which its object is known: it has no dict -/
def tyFt (x : V) (H : Hp) : Prop := ∃ t o xs, x = .ref t ∧ H t = some (.frz o (.tup xs)) ∧ o.cls = .type "tuple" ∧ o.dict = none
theorem ty_ft {X : Cx} : TyOk X "tuple" tyFt := by
  intro pins σ H s x v I r ⟨t, o, xs, ex, e, hc, hd⟩
  subst ex
  obtain rfl : v = Value.ref t := r
  have z : s.heap.get? t = some o := (I.hok t _ e).1
  refine ⟨⟨o, z, hc⟩, fun a ea => ?_⟩
  obtain rfl := Value.ref.inj ea
  exact ⟨o, z, hd⟩
theorem call_tupleF {X : Cx} : CallR X (.type "tuple") (fun xs H Q => ∃ p ys, xs = [.ref p] ∧ SqL X.K H p ys ∧ ∀ (l : Addr) (o : Obj), H l = none → o.cls = .type "tuple" → o.dict = none → Q (.ref l) (upd H l (.frz o (.tup ys)))) := by
  intro pins s σ H xs us Q I r ⟨p, ys, ex, hq, q⟩
  subst ex
  obtain ⟨u, rfl, rx⟩ := vals1 r
  cases rx
  obtain ⟨its, r', pl, hz⟩ := I.list hq
  have hlen := r'.length
  refine call_tuple_list pl.isList (fun h' kp => ?_) (by simp only [List.size_toArray]; omega)
  have I1 : Inv X pins σ H { s with heap := h' } := I.kept (t' := s.toks) kp
  have new : ObjOk X.prog X.w (upd H h'.objs.size (.frz { cls := .type "tuple", data := .seq its.toArray } (.tup ys))) (h'.push { cls := .type "tuple", data := .seq its.toArray }) h'.objs.size (.frz { cls := .type "tuple", data := .seq its.toArray } (.tup ys)) :=
    ⟨Heap.get?_push_size _ rfl, hz, its, r', IsTup.new _ _⟩
  exact ⟨.ref h'.objs.size, _, I1.laid (t' := s.toks) (fun b o e => Heap.get?_push_of_some _ e) (Nat.le_refl _) new, rfl, q _ _ (I1.hok.fresh (Nat.le_refl _)) rfl rfl⟩
theorem seqT_put {K : PySem.W.Frag} {H : Hp} {t D : Addr} {xs ys zs : List V} (h : SqT K H t xs) (hD : H D = some (.lst ys)) : SqT K (upd H D (.lst zs)) t xs := by
  rcases h with (h | ⟨o, h⟩) | h
  · exact .inl (.inl (by rw [upd_ne (ne_of h hD (by intro z; cases z))]; exact h))
  · exact .inl (.inr ⟨o, by rw [upd_ne (ne_of h hD (by intro z; cases z))]; exact h⟩)
  · exact .inr h
/-- a maker's promise -/
def spMk (K : PySem.W.Frag) (mk : List Int → Option Form) : Sp := fun vs H Q _ => ∃ (a : Addr) (ns : List Int), vs = [.ref a] ∧ SqL K H a (ns.map V.int) ∧ Good ns ∧
  (mk ns = none → ∀ H', Same H H' → Q .non H') ∧ (∀ F, mk ns = some F → ∀ (H' : Hp) (p : Addr), Same H H' → IsF K H' p F → Q (.ref p) H')
section
variable {P : Program} {w : World} {K : PySem.W.Frag} {mg : Str → Option Value} {base : Heap}
abbrev s_check_values : Stmt := top 25
abbrev N_check_values : List Str := ["values", "place", "value"]
abbrev P_check_values : List Str := ["values"]
theorem sc_check_values : FnScope N_check_values P_check_values (defScope s_check_values) := ⟨rfl, rfl, rfl, by decide +kernel, rfl, by decide +kernel, by decide +kernel⟩
def spChV (K : PySem.W.Frag) : Sp := fun vs H Q _ => ∃ (a : Addr) (ns : List Int), vs = [.ref a] ∧ SqL K H a (ns.map V.int) ∧ Good ns ∧ ∀ H', Same H H' → Q .non H'
theorem ok_check_values (T : Txt mg) (D : Df K mg "check_values" s_check_values P_check_values) : Fn P w K mg base CX0 1 "check_values" P_check_values (spChV K) := by
  refine D.ok sc_check_values (fun vs H Q E h => ?_) (fun f cdv A outer s H vs Q E hr h => ?_)
  · obtain ⟨a, ns, rfl, _⟩ := h
    rfl
  · obtain ⟨a, ns, rfl, hS, G, k⟩ := h
    have nd := sc_check_values.nd
    refine ⟨_, (pss_cons (ps_if (pt_cmpR op_eq (pe_callB call_len_seq (by rfl) T.b_len (by decide +kernel) (pa_cons (pv 0) pa_nil)) pe_int (nomark _))
  (pss_one ps_never)
  pss_nil)
  (pss_one (ps_for PassesOwn.never rfl (pi_enum (by rfl) T.b_enumerate (pa_cons (pv 0) pa_nil)) (pg_tup (by rfl) (pgs_cons (pg_name (i := 1) nd rfl (by first | exact Or.inl rfl | exact Or.inr rfl)) (pgs_cons (pg_name (i := 2) nd rfl (by first | exact Or.inl rfl | exact Or.inr rfl)) pgs_nil)))
  (pss_one (ps_if (PW.pt (pw_or (pt_cmpR op_ge (pv 1) (pe_gint T.c_MOST_VALUES) (nomark _)) (pw_or (pt_cmpR op_lt (pv 2) (pe_un un_neg (pe_gint T.c_MOST)) (nomark _)) (pw_or1 (pt_cmpR op_gt (pv 2) (pe_gint T.c_MOST) (nomark _))))))
  (pss_one ps_never)
  pss_nil))))), ?_⟩
    have hl : 0 < ns.length := List.length_pos_iff.mpr G.ne
    refine ⟨_, rfl, a, _, rfl, .inl hS, rfl, _, rfl, ?_⟩
    refine ite2 (fun c => ?_) (fun _ => ?_)
    · have c' := V.int.inj (of_decide_eq_true c)
      rw [List.length_map] at c'
      omega
    refine ⟨_, rfl, a, _, rfl, hS, for_it walk_enum (fun i σ H' => ∃ v1 v2, σ = [some (.ref a), v1, v2] ∧ Same H H') ⟨none, none, rfl, Same.refl H⟩ (fun i σ H' _ ⟨_, _, _, s5⟩ => s5.seq hS) ?_ ?_⟩
    · rintro i x σ H1 H2 hi ⟨v1, v2, rfl, s5⟩ ⟨T0, x0, y0, rfl, nT, rfl, e1, e2⟩
      obtain ⟨z, hz, rfl⟩ := map_at e2
      obtain rfl : V.int (i : Nat) = x0 := Option.some.inj e1
      obtain ⟨z0, z1⟩ := G.inn z (List.mem_of_getElem? hz)
      have hf := G.few
      rw [List.length_map] at hi
      refine ⟨T0, _, rfl, SqT.of upd_same, rfl, _, _, rfl, _, _, rfl, rfl, ?_⟩
      refine ⟨_, rfl, _, _, rfl, rfl, _, rfl, ?_⟩
      refine ite2 (fun c => absurd (of_decide_eq_true c) (by omega)) (fun _ => ?_)
      refine ⟨_, rfl, _, rfl, _, _, rfl, rfl, _, rfl, ?_⟩
      refine ite2 (fun c => absurd (of_decide_eq_true c) (by omega)) (fun _ => ?_)
      refine ⟨_, rfl, _, _, rfl, rfl, _, rfl, ?_⟩
      refine ite2 (fun c => absurd (of_decide_eq_true c) (by omega)) (fun _ => ?_)
      exact ⟨_, _, rfl, s5.upd' nT⟩
    · rintro σ H' ⟨v1, v2, rfl, s5⟩
      exact k _ s5
abbrev s_make_plain : Stmt := top 26
abbrev N_make_plain : List Str := ["values"]
abbrev P_make_plain : List Str := ["values"]
theorem sc_make_plain : FnScope N_make_plain P_make_plain (defScope s_make_plain) := ⟨rfl, rfl, rfl, by decide +kernel, rfl, by decide +kernel, by decide +kernel⟩
theorem ok_make_plain (T : Txt mg) (D : Df K mg "make_plain" s_make_plain P_make_plain) : Fn P w K mg base CX0 1 "make_plain" P_make_plain (spMk K mkPlain) := by
  refine D.ok sc_make_plain (fun vs H Q E h => ?_) (fun f cdv A outer s H vs Q E hr h => ?_)
  · obtain ⟨a, ns, rfl, _⟩ := h
    rfl
  · obtain ⟨a, ns, rfl, hS, G, k0, k⟩ := h
    have nd := sc_make_plain.nd
    refine ⟨_, (pss_one (ps_ret (pe_tup (pa_cons pe_str (pa_cons (pe_callTy call_tuple_of (by rfl) T.b_tuple (by decide +kernel) (pa_cons (pv 0) pa_nil)) pa_nil))))), ?_⟩
    refine ⟨_, rfl, a, _, rfl, .inl ⟨hS, fun q nq => ⟨(by show 2 ≤ sizeLine; decide), fun p np => ?_⟩⟩⟩
    exact k _ rfl _ p ((Same.upd nq).upd' np) ⟨q, SqT.of upd_same, SqT.of ((upd_ne (ne_of_none upd_same np)).trans upd_same)⟩
abbrev s_make_one : Stmt := top 27
abbrev N_make_one : List Str := ["values"]
abbrev P_make_one : List Str := ["values"]
theorem sc_make_one : FnScope N_make_one P_make_one (defScope s_make_one) := ⟨rfl, rfl, rfl, by decide +kernel, rfl, by decide +kernel, by decide +kernel⟩
theorem ok_make_one (T : Txt mg) (D : Df K mg "make_one" s_make_one P_make_one) : Fn P w K mg base CX0 1 "make_one" P_make_one (spMk K mkOne) := by
  refine D.ok sc_make_one (fun vs H Q E h => ?_) (fun f cdv A outer s H vs Q E hr h => ?_)
  · obtain ⟨a, ns, rfl, _⟩ := h
    rfl
  · obtain ⟨a, ns, rfl, hS, G, k0, k⟩ := h
    have nd := sc_make_one.nd
    refine ⟨_, (pss_cons (ps_if (pt_cmpR op_lt (pe_callB (cr_min rfl) (by rfl) T.b_min (by decide +kernel) (pa_cons (pv 0) pa_nil)) (pe_callB (cr_max rfl) (by rfl) T.b_max (by decide +kernel) (pa_cons (pv 0) pa_nil)) (nomark _))
  (pss_one (ps_ret pe_non))
  pss_nil)
  (pss_one (ps_ret (pe_tup (pa_cons pe_str (pa_cons (pe_callB call_len_seq (by rfl) T.b_len (by decide +kernel) (pa_cons (pv 0) pa_nil)) (pa_cons (pe_ix ix_list (pv 0) pe_int (fun _ _ => rfl)) pa_nil))))))), ?_⟩
    have hl : 0 < ns.length := List.length_pos_iff.mpr G.ne
    refine ⟨_, rfl, a, ns, rfl, hS, hl, fun m m1 m2 => ?_⟩
    refine ⟨_, rfl, a, ns, rfl, hS, hl, fun x x1 x2 => ⟨_, _, rfl, rfl, _, rfl, ?_⟩⟩
    rw [lmin_eq m1 m2, lmax_eq x1 x2]
    refine ite2 (fun c => k0 (if_pos (of_decide_eq_true c)) _ (Same.refl _)) (fun c => ?_)
    have c' : ¬ lmin ns < lmax ns := fun z => c (decide_eq_true z)
    refine ⟨_, rfl, a, _, rfl, .inl hS, _, rfl, a, _, 0, .int (ns.headD 0), rfl, rfl, hS, ?_, (by show 3 ≤ sizeLine; decide), fun p np => ?_⟩
    · obtain ⟨n, r, rfl⟩ : ∃ n r, ns = n :: r := List.exists_cons_of_ne_nil G.ne
      exact at0
    refine k _ (if_neg c') _ p (Same.upd np) ?_
    show SqT K _ p [.str "one", .int (ns.length : Int), .int (ns.headD 0)]
    rw [← List.length_map (f := V.int)]
    exact SqT.of upd_same
abbrev s_packed_from : Stmt := top 31
abbrev N_packed_from : List Str := ["low", "span", "numbers", "number"]
abbrev P_packed_from : List Str := ["low", "span", "numbers"]
theorem sc_packed_from : FnScope N_packed_from P_packed_from (defScope s_packed_from) := ⟨rfl, rfl, rfl, by decide +kernel, rfl, by decide +kernel, by decide +kernel⟩
def spPf (K : PySem.W.Frag) : Sp := fun vs H Q _ => ∃ (low span : Int) (a : Addr) (ns : List Int), vs = [.int low, .int span, .ref a] ∧ SqL K H a (ns.map V.int) ∧ 0 ≤ span ∧ span ≤ 9999 ∧ ns.length ≤ 32 ∧ (∀ n ∈ ns, low ≤ n ∧ n ≤ low + span) ∧
  ∀ (H' : Hp) (p : Addr), Same H H' → SqT K H' p ((packedFrom low span ns).map V.int) → Q (.ref p) H'
theorem ok_packed_from (T : Txt mg) (D : Df K mg "packed_from" s_packed_from P_packed_from) (G_packed : Fn P w K mg base CX0 2 "packed" P_packed (spPck K)) : Fn P w K mg base CX0 3 "packed_from" P_packed_from (spPf K) := by
  refine D.ok sc_packed_from (fun vs H Q E h => ?_) (fun f cdv A outer s H vs Q E hr h => ?_)
  · obtain ⟨low, span, a, ns, rfl, _⟩ := h
    rfl
  · obtain ⟨low, span, a, ns, rfl, hS, s0, s1, hl, hb, k⟩ := h
    have nd := sc_packed_from.nd
    refine ⟨_, (pss_cons (ps_if (pt_cmpR op_eq (pv 1) pe_int (nomark _))
  (pss_one (ps_ret (pe_tup pa_nil)))
  pss_nil)
  (pss_one (ps_ret (pe_c G_packed (hr.mono (by decide)) pass0 (pa_cons (pe_op op_add (pv 1) pe_int) (pa_cons (pe_lc (own := [("number", 3)]) (g := gName 3) (by rfl) nd  (pi_list (pv 2)) (blkOk_by (own := [("number", 3)]) (N := N_packed_from) (sc := defScope s_packed_from) (by decide +kernel)) (fun _ _ _ _ _ => pg_name (i := 3) nd rfl (Or.inl rfl)) (fun _ _ _ _ _ => pts_nil) (fun _ _ _ _ _ => (pe_op op_sub (pv 3) (pv 0)))) pa_nil)))))), ?_⟩
    refine ⟨_, rfl, rfl, _, rfl, ?_⟩
    refine ite2 (fun c => ?_) (fun c => ?_)
    · have c' : span = 0 := V.int.inj (of_decide_eq_true c)
      refine ⟨Nat.zero_le _, fun p np => k _ p (Same.upd np) ?_⟩
      unfold packedFrom
      rw [if_pos c']
      exact SqT.of upd_same
    · have c' : ¬ span = 0 := fun z => c (decide_eq_true (congrArg V.int z))
      refine ⟨_, rfl, _, _, rfl, rfl, _, rfl, a, rfl, ⟨_, hS⟩, fun D0 nD => ?_⟩
      refine lc_all walk_list (fun i H' => Same H H' ∧ H' D0 = some (.lst (((ns.take i).map (· - low)).map V.int))) ⟨Same.upd nD, upd_same⟩ (fun i H' _ ⟨s5, _⟩ => s5.seq hS) ?_ ?_
      · rintro i x H2 H3 hi ⟨s2, hD⟩ ⟨rfl, e⟩
        rw [List.length_map] at hi
        obtain ⟨z, hz, rfl⟩ := map_at e
        refine ⟨_, rfl, _, rfl, _, _, rfl, rfl, _, hD, ?_, Same.put s2 nD, ?_⟩
        · rw [List.length_map, List.length_map, List.length_take, sizeLine_eq]
          omega
        · rw [upd_same, take_more hz, List.map_append, List.map_append]
          rfl
      · rintro H2 ⟨s2, hD⟩
        rw [List.length_map, List.take_length] at hD
        refine ⟨span + 1, D0, ns.map (· - low), rfl, SqL.of hD, by omega, by omega, fun n hn => ?_, by rw [List.length_map]; omega, fun H3 p s3 np hp => ?_⟩
        · obtain ⟨m, hm, rfl⟩ := List.mem_map.mp hn
          have := hb m hm
          constructor <;> omega
        · refine k _ p (s2.trans s3) ?_
          unfold packedFrom
          rw [if_neg c']
          exact SqT.of hp
def spUf (K : PySem.W.Frag) : Sp := fun vs H Q _ => ∃ (low span : Int) (a : Addr) (cs : List Int) (m : Nat), vs = [.int low, .int span, .ref a, .int m] ∧ SqT K H a (cs.map V.int) ∧ 0 ≤ span ∧ span ≤ 9999 ∧ cs.length ≤ 1000 ∧ m ≤ 1000 ∧
  ∀ (H' : Hp) (p : Addr), Same H H' → H p = none → H' p = some (.lst ((unpackedFrom low span cs m).map V.int)) → Q (.ref p) H'
abbrev s_make_codes : Stmt := top 28
abbrev N_make_codes : List Str := ["values", "unlike", "codes", "value"]
abbrev P_make_codes : List Str := ["values"]
theorem sc_make_codes : FnScope N_make_codes P_make_codes (defScope s_make_codes) := ⟨rfl, rfl, rfl, by decide +kernel, rfl, by decide +kernel, by decide +kernel⟩
theorem ok_make_codes (T : Txt mg) (D : Df K mg "make_codes" s_make_codes P_make_codes) (G_packed : Fn P w K mg base CX0 2 "packed" P_packed (spPck K)) : Fn P w K mg base CX0 3 "make_codes" P_make_codes (spMk K mkCodes) := by
  refine D.ok sc_make_codes (fun vs H Q E h => ?_) (fun f cdv A outer s H vs Q E hr h => ?_)
  · obtain ⟨a, ns, rfl, _⟩ := h
    rfl
  · obtain ⟨a, ns, rfl, hS, G, k0, k⟩ := h
    have nd := sc_make_codes.nd
    refine ⟨_, (pss_cons (ps_set (i := 1) nd rfl (by first | exact Or.inl rfl | exact Or.inr rfl) (pe_callTy call_tupleF (by rfl) T.b_tuple (by decide +kernel) (pa_cons (pe_callB (cr_sortedSet rfl) (by rfl) T.b_sorted (by decide +kernel) (pa_cons (pe_callTy (cr_setL rfl) (by rfl) T.b_set (by decide +kernel) (pa_cons (pv 0) pa_nil)) pa_nil)) pa_nil)))
  (pss_cons (ps_if (pt_cmpR op_lt (pe_callB call_len_seq (by rfl) T.b_len (by decide +kernel) (pa_cons (pv 1) pa_nil)) pe_int (nomark _))
  (pss_one (ps_ret pe_non))
  pss_nil)
  (pss_cons (ps_setLc (i := 2) (own := [("value", 3)]) (g := gName 3) (by rfl) nd rfl rfl (sw_true rfl rfl rfl (by decide +kernel)) (pi_list (pv 0)) (blkOk_by (own := [("value", 3)]) (N := N_make_codes) (sc := defScope s_make_codes) (by decide +kernel)) (fun _ _ _ _ _ => pg_name (i := 3) nd rfl (Or.inl rfl)) (fun _ _ _ _ _ => pts_nil) (fun _ _ _ _ _ => (pe_mG ty_ft PySem.F.plainAttrs_tuple PySem.F.slot_tuple_index PySem.F.type_tuple_index (mt_tixK (K := K) rfl) (pv 1) (pa_cons (pv 3) pa_nil))))
  (pss_one (ps_ret (pe_tup (pa_cons pe_str (pa_cons (pe_callB call_len_seq (by rfl) T.b_len (by decide +kernel) (pa_cons (pv 0) pa_nil)) (pa_cons (pv 1) (pa_cons (pe_c G_packed (hr.mono (by decide)) pass0 (pa_cons (pe_callB call_len_seq (by rfl) T.b_len (by decide +kernel) (pa_cons (pv 1) pa_nil)) (pa_cons (pv 2) pa_nil))) pa_nil)))))))))), ?_⟩
    have hf := G.few
    refine ⟨_, rfl, a, ns, rfl, hS, by omega, fun p n ks np hn nk mk hk => ?_⟩
    refine ⟨p, _, n, rfl, upd_same, by omega, fun u q rises mem hu nq => ?_⟩
    have eu : u = usort ns := usort_eq rises fun k => (mem k).trans decide_eq_true_iff
    subst eu
    have nqH : H q = none := (Same.upd np).free nq
    refine ⟨q, _, rfl, SqL.of upd_same, fun t o nt oc od => ?_⟩
    suffices hh : ∀ H4 : Hp, Same H H4 → H4 t = some (.frz o (.tup ((usort ns).map V.int))) → _ from hh _ (((Same.upd np).upd' nq).upd' nt) upd_same
    intro H4 s3 ht4
    have ht : SqT K H4 t ((usort ns).map V.int) := .inl (.inr ⟨o, ht4⟩)
    refine ⟨_, rfl, t, _, rfl, .inr ht, _, _, rfl, rfl, _, rfl, ?_⟩
    refine ite2 (fun c => ?_) (fun c0 => ?_)
    · have c' : (((usort ns).map V.int).length : Int) < 2 := of_decide_eq_true c
      rw [List.length_map] at c'
      exact k0 (if_pos (by omega)) _ s3
    have c0' : ¬ (usort ns).length < 2 := fun z => c0 (decide_eq_true (by rw [List.length_map]; omega))
    refine ⟨_, rfl, a, rfl, ⟨_, s3.seq hS⟩, fun D0 nD => ?_⟩
    refine lc_all walk_list (fun i H' => Same H H' ∧ H' t = some (.frz o (.tup ((usort ns).map V.int))) ∧ H' D0 = some (.lst (((ns.take i).map fun v => (idx (usort ns) v : Int)).map V.int))) ⟨s3.upd' nD, Same.upd nD _ _ ht4, upd_same⟩ (fun i H' _ ⟨s5, _⟩ => s5.seq hS) ?_ ?_
    · rintro i x H2 H3 hi ⟨s2, ht2, hD⟩ ⟨rfl, e⟩
      rw [List.length_map] at hi
      obtain ⟨z, hz, rfl⟩ := map_at e
      have zm := (mem_usort z ns).mpr (List.mem_of_getElem? hz)
      refine ⟨_, rfl, ⟨t, o, _, rfl, ht2, oc, od⟩, _, rfl, t, usort ns, z, idx (usort ns) z, rfl, rfl, .inl (.inr ⟨o, ht2⟩), idx_get zm, fun m hm => idx_first hm, _, hD, ?_, Same.put s2 (s3.free nD), ?_, ?_⟩
      · rw [List.length_map, List.length_map, List.length_take, sizeLine_eq]
        omega
      · rw [upd_ne (ne_of ht2 hD (by intro z; cases z))]
        exact ht2
      · rw [upd_same, take_more hz, List.map_append, List.map_append]
        rfl
    · rintro H2 ⟨s2, ht3, hD⟩
      have ht2 : SqT K H2 t ((usort ns).map V.int) := .inl (.inr ⟨o, ht3⟩)
      rw [List.length_map, List.take_length] at hD
      have hu := usort_length ns
      refine ⟨_, rfl, a, _, rfl, .inl (s2.seq hS), _, rfl, _, rfl, t, _, rfl, .inr ht2, _, rfl, _, D0, ns.map (fun v => (idx (usort ns) v : Int)), rfl, SqL.of hD, ?_, ?_, fun n hn => ?_, by rw [List.length_map]; omega, fun H5 r s5 nr hr5 => ⟨(by show 4 ≤ sizeLine; decide), fun p np => ?_⟩⟩
      · rw [List.length_map]; omega
      · rw [List.length_map]; omega
      · obtain ⟨m, hm, rfl⟩ := List.mem_map.mp hn
        have := idx_lt ((mem_usort m ns).mpr hm)
        rw [List.length_map]
        constructor <;> omega
      · refine k _ (if_neg c0') _ p ((s2.trans s5).upd' np) ⟨t, r, ?_, (Same.upd np).seqT (s5.seqT ht2), (Same.upd np).seqT ?_⟩
        · rw [← List.length_map (f := V.int)]
          exact SqT.of upd_same
        · rw [List.length_map] at hr5
          exact SqT.of hr5
abbrev s_make_near : Stmt := top 29
abbrev N_make_near : List Str := ["values", "least", "span"]
abbrev P_make_near : List Str := ["values"]
theorem sc_make_near : FnScope N_make_near P_make_near (defScope s_make_near) := ⟨rfl, rfl, rfl, by decide +kernel, rfl, by decide +kernel, by decide +kernel⟩
theorem ok_make_near (T : Txt mg) (D : Df K mg "make_near" s_make_near P_make_near) (G_packed_from : Fn P w K mg base CX0 3 "packed_from" P_packed_from (spPf K)) : Fn P w K mg base CX0 4 "make_near" P_make_near (spMk K mkNear) := by
  refine D.ok sc_make_near (fun vs H Q E h => ?_) (fun f cdv A outer s H vs Q E hr h => ?_)
  · obtain ⟨a, ns, rfl, _⟩ := h
    rfl
  · obtain ⟨a, ns, rfl, hS, G, k0, k⟩ := h
    have nd := sc_make_near.nd
    refine ⟨_, (pss_cons (ps_set (i := 1) nd rfl (by first | exact Or.inl rfl | exact Or.inr rfl) (pe_callB (cr_min rfl) (by rfl) T.b_min (by decide +kernel) (pa_cons (pv 0) pa_nil)))
  (pss_cons (ps_set (i := 2) nd rfl (by first | exact Or.inl rfl | exact Or.inr rfl) (pe_op op_sub (pe_callB (cr_max rfl) (by rfl) T.b_max (by decide +kernel) (pa_cons (pv 0) pa_nil)) (pv 1)))
  (pss_cons (ps_if (PW.pt (pw_or (pt_cmpR op_lt (pv 2) pe_int (nomark _)) (pw_or1 (pt_cmpR op_gt (pv 2) (pe_gint T.c_MOST) (nomark _)))))
  (pss_one (ps_ret pe_non))
  pss_nil)
  (pss_one (ps_ret (pe_tup (pa_cons pe_str (pa_cons (pe_callB call_len_seq (by rfl) T.b_len (by decide +kernel) (pa_cons (pv 0) pa_nil)) (pa_cons (pv 1) (pa_cons (pv 2) (pa_cons (pe_c G_packed_from (hr.mono (by decide)) pass0 (pa_cons (pv 1) (pa_cons (pv 2) (pa_cons (pv 0) pa_nil)))) pa_nil))))))))))), ?_⟩
    have hl : 0 < ns.length := List.length_pos_iff.mpr G.ne
    refine ⟨_, rfl, a, ns, rfl, hS, hl, fun m m1 m2 => ?_⟩
    refine ⟨_, rfl, a, ns, rfl, hS, hl, fun x x1 x2 => ⟨_, rfl, _, _, rfl, rfl, ?_⟩⟩
    obtain rfl := lmin_eq m1 m2
    obtain rfl := lmax_eq x1 x2
    refine ⟨_, rfl, _, _, rfl, rfl, _, rfl, ?_⟩
    refine ite2 (fun c => k0 (if_pos (.inl (of_decide_eq_true c))) _ (Same.refl _)) (fun c1 => ?_)
    refine ⟨_, rfl, _, _, rfl, rfl, _, rfl, ?_⟩
    refine ite2 (fun c => k0 (if_pos (.inr (of_decide_eq_true c))) _ (Same.refl _)) (fun c2 => ?_)
    have c1' : ¬ lmax ns - lmin ns < 1 := fun z => c1 (decide_eq_true z)
    have c2' : ¬ 9999 < lmax ns - lmin ns := fun z => c2 (decide_eq_true z)
    refine ⟨_, rfl, a, _, rfl, .inl hS, _, rfl, _, rfl, _, rfl, _, rfl, _, rfl, lmin ns, lmax ns - lmin ns, a, ns, rfl, hS, by omega, by omega, G.few, between G.ne, fun H1 q s1 hq => ⟨(by show 5 ≤ sizeLine; decide), fun p np => ?_⟩⟩
    refine k _ (if_neg (fun z => z.elim c1' c2')) _ p (s1.upd' np) ⟨q, ?_, (Same.upd np).seqT hq⟩
    rw [← List.length_map (f := V.int)]
    exact SqT.of upd_same
abbrev s_make_steps : Stmt := top 30
abbrev N_make_steps : List Str := ["values", "steps", "at", "low", "span"]
abbrev P_make_steps : List Str := ["values"]
theorem sc_make_steps : FnScope N_make_steps P_make_steps (defScope s_make_steps) := ⟨rfl, rfl, rfl, by decide +kernel, rfl, by decide +kernel, by decide +kernel⟩
theorem ok_make_steps (T : Txt mg) (D : Df K mg "make_steps" s_make_steps P_make_steps) (G_packed_from : Fn P w K mg base CX0 3 "packed_from" P_packed_from (spPf K)) : Fn P w K mg base CX0 4 "make_steps" P_make_steps (spMk K mkSteps) := by
  refine D.ok sc_make_steps (fun vs H Q E h => ?_) (fun f cdv A outer s H vs Q E hr h => ?_)
  · obtain ⟨a, ns, rfl, _⟩ := h
    rfl
  · obtain ⟨a, ns, rfl, hS, G, k0, k⟩ := h
    have nd := sc_make_steps.nd
    refine ⟨_, (pss_cons (ps_if (pt_cmpR op_lt (pe_callB call_len_seq (by rfl) T.b_len (by decide +kernel) (pa_cons (pv 0) pa_nil)) pe_int (nomark _))
  (pss_one (ps_ret pe_non))
  pss_nil)
  (pss_cons (ps_setLc (i := 1) (own := [("at", 2)]) (g := gName 2) (by rfl) nd rfl rfl (sw_true rfl rfl rfl (by decide +kernel)) (pi_range2 (by rfl) T.b_range (pa_cons pe_int (pa_cons (pe_callB call_len_seq (by rfl) T.b_len (by decide +kernel) (pa_cons (pv 0) pa_nil)) pa_nil))) (blkOk_by (own := [("at", 2)]) (N := N_make_steps) (sc := defScope s_make_steps) (by decide +kernel)) (fun _ _ _ _ _ => pg_name (i := 2) nd rfl (Or.inl rfl)) (fun _ _ _ _ _ => pts_nil) (fun _ _ _ _ _ => (pe_op op_sub (pe_ix (ix_listK (K := K) rfl) (pv 0) (pv 2) (fun _ _ => rfl)) (pe_ix (ix_listK (K := K) rfl) (pv 0) (pe_op op_sub (pv 2) pe_int) (fun _ _ => rfl)))))
  (pss_cons (ps_set (i := 3) nd rfl (by first | exact Or.inl rfl | exact Or.inr rfl) (pe_callB (cr_min rfl) (by rfl) T.b_min (by decide +kernel) (pa_cons (pv 1) pa_nil)))
  (pss_cons (ps_set (i := 4) nd rfl (by first | exact Or.inl rfl | exact Or.inr rfl) (pe_op op_sub (pe_callB (cr_max rfl) (by rfl) T.b_max (by decide +kernel) (pa_cons (pv 1) pa_nil)) (pv 3)))
  (pss_cons (ps_if (pt_cmpR op_gt (pv 4) (pe_gint T.c_MOST) (nomark _))
  (pss_one (ps_ret pe_non))
  pss_nil)
  (pss_one (ps_ret (pe_tup (pa_cons pe_str (pa_cons (pe_callB call_len_seq (by rfl) T.b_len (by decide +kernel) (pa_cons (pv 0) pa_nil)) (pa_cons (pe_ix ix_list (pv 0) pe_int (fun _ _ => rfl)) (pa_cons (pv 3) (pa_cons (pv 4) (pa_cons (pe_c G_packed_from (hr.mono (by decide)) pass0 (pa_cons (pv 3) (pa_cons (pv 4) (pa_cons (pv 1) pa_nil)))) pa_nil)))))))))))))), ?_⟩
    have hf := G.few
    refine ⟨_, rfl, a, _, rfl, .inl hS, _, _, rfl, rfl, _, rfl, ?_⟩
    refine ite2 (fun c => ?_) (fun c0 => ?_)
    · have c' : ((ns.map V.int).length : Int) < 2 := of_decide_eq_true c
      rw [List.length_map] at c'
      exact k0 (if_pos (by omega)) _ (Same.refl _)
    have c0' : ¬ ns.length < 2 := fun z => c0 (decide_eq_true (by rw [List.length_map]; omega))
    have hst := steps_length ns
    refine ⟨_, rfl, a, _, rfl, .inl hS, 1, _, rfl, ⟨by decide, by decide, by omega, by rw [List.length_map]; omega⟩, fun D0 nD => ?_⟩
    have en : (((ns.map V.int).length : Int) - 1).toNat = (steps ns).length := by
      rw [List.length_map, hst]
      omega
    rw [en]
    refine lc_all (walk_range (lo := 1)) (fun i H' => Same H H' ∧ H' D0 = some (.lst (((steps ns).take i).map V.int))) ⟨Same.upd nD, upd_same⟩ (fun _ _ _ _ => True.intro) ?_ ?_
    · rintro i x H2 H3 hi ⟨s2, hD⟩ ⟨rfl, rfl⟩
      have h1 : ns[i]? = some ns[i] := List.getElem?_eq_getElem (by omega)
      have h2 : ns[i + 1]? = some ns[i + 1] := List.getElem?_eq_getElem (by omega)
      have hs := step_at h1 h2
      refine ⟨_, rfl, _, rfl, a, _, _, .int ns[i + 1], rfl, rfl, s2.seq hS, at_of (j := i + 1) (by omega) (by rw [List.getElem?_map, h2]; rfl), _, rfl, _, rfl, _, _, rfl, rfl, a, _, _, .int ns[i], rfl, rfl, s2.seq hS, at_of (j := i) (by omega) (by rw [List.getElem?_map, h1]; rfl), _, _, rfl, rfl, _, hD, ?_, Same.put s2 nD, ?_⟩
      · rw [List.length_map, List.length_take, sizeLine_eq]
        omega
      · rw [upd_same, take_more hs, List.map_append]
        rfl
    · rintro H2 ⟨s2, hD⟩
      rw [List.take_length] at hD
      have hq := SqL.of (K := K) hD
      have hl : 0 < (steps ns).length := by omega
      refine ⟨_, rfl, D0, steps ns, rfl, hq, hl, fun m m1 m2 => ?_⟩
      refine ⟨_, rfl, D0, steps ns, rfl, hq, hl, fun x x1 x2 => ⟨_, rfl, _, _, rfl, rfl, ?_⟩⟩
      obtain rfl := lmin_eq m1 m2
      obtain rfl := lmax_eq x1 x2
      refine ⟨_, rfl, _, _, rfl, rfl, _, rfl, ?_⟩
      refine ite2 (fun c => ?_) (fun c2 => ?_)
      · refine k0 ?_ _ s2
        unfold mkSteps
        rw [if_neg c0', if_pos (of_decide_eq_true c)]
      have c2' : ¬ 9999 < lmax (steps ns) - lmin (steps ns) := fun z => c2 (decide_eq_true z)
      refine ⟨_, rfl, a, _, rfl, .inl (s2.seq hS), _, rfl, a, _, 0, .int (ns.headD 0), rfl, rfl, s2.seq hS, ?_, _, rfl, _, rfl, _, rfl, _, rfl, _, rfl, _, _, D0, steps ns, rfl, hq, span_nn (steps_ne c0'), by omega, by omega, between (steps_ne c0'), fun H5 r s5 hr5 => ⟨(by show 6 ≤ sizeLine; decide), fun p np => ?_⟩⟩
      · obtain ⟨n, r, rfl⟩ : ∃ n r, ns = n :: r := List.exists_cons_of_ne_nil G.ne
        exact at0
      · have em : mkSteps ns = some (.steps ns.length (ns.headD 0) (lmin (steps ns)) (lmax (steps ns) - lmin (steps ns)) (packedFrom (lmin (steps ns)) (lmax (steps ns) - lmin (steps ns)) (steps ns))) := by
          unfold mkSteps
          rw [if_neg c0', if_neg c2']
        refine k _ em _ p ((s2.trans s5).upd' np) ⟨r, ?_, (Same.upd np).seqT hr5⟩
        · rw [← List.length_map (f := V.int)]
          exact SqT.of upd_same
end
end K3

set_option Elab.async false
set_option linter.all false
set_option maxRecDepth 100000
set_option maxHeartbeats 4000000
namespace K3
open PySem PySem.Spec PyProof.Rows L2
theorem tyX_seqT {K : PySem.W.Frag} {H : Hp} {t : Addr} {xs : List V} (h : SqT K H t xs) : TyX K H (.ref t) (.type "tuple") := by
  rcases h with (h | ⟨o, h⟩) | h
  · exact .base (.tup h)
  · exact .fTuple h
  · obtain ⟨o, _, _, e, c, _⟩ := h
    exact .kTuple e c
/-- a form whose parts have their sizes -/
def FOk : Form → Prop
  | .plain vs => vs.length ≤ 1000
  | .one n _ => n ≤ 1000
  | .codes n u c => 2 ≤ u.length ∧ u.length ≤ 10000 ∧ c.length ≤ 1000 ∧ n ≤ 1000
  | .near n _ s c => 0 ≤ s ∧ s ≤ 9999 ∧ c.length ≤ 1000 ∧ n ≤ 1000
  | .steps n _ _ s c => 0 ≤ s ∧ s ≤ 9999 ∧ c.length ≤ 1000 ∧ 1 ≤ n ∧ n ≤ 1000
def isPlain : Form → Prop | .plain _ => True | _ => False
def isOne : Form → Prop | .one _ _ => True | _ => False
def isCodes : Form → Prop | .codes _ _ _ => True | _ => False
def isNear : Form → Prop | .near _ _ _ _ => True | _ => False
def isSteps : Form → Prop | .steps _ _ _ _ _ => True | _ => False
/-- a reader's promise, for forms of its kind -/
def spRd (K : PySem.W.Frag) (kind : Form → Prop) : Sp := fun vs H Q _ => ∃ (a : Addr) (F : Form), vs = [.ref a] ∧ kind F ∧ IsF K H a F ∧ FOk F ∧
  ∀ (H' : Hp) (p : Addr), Same H H' → H p = none → H' p = some (.lst ((readF F).map V.int)) → Q (.ref p) H'
theorem digits_in {b : Int} (hb : 0 < b) : ∀ (k : Nat) (c : Int), ∀ d ∈ digits b k c, 0 ≤ d ∧ d < b
  | 0, _, d, h => nomatch h
  | k + 1, c, d, h => by
    rcases List.mem_cons.mp h with e | e
    · subst e
      exact ⟨Int.emod_nonneg _ (by omega), Int.emod_lt_of_pos _ hb⟩
    · exact digits_in hb k _ d e
theorem unpacked_in {b : Int} (hb : 0 < b) {cs : List Int} {n : Nat} : ∀ d ∈ K3.unpacked b cs n, 0 ≤ d ∧ d < b := fun d h => by
  obtain ⟨c, _, e⟩ := List.mem_flatMap.mp (List.mem_of_mem_take h)
  exact digits_in hb _ _ d e
theorem unpacked_le {b : Int} {cs : List Int} {n : Nat} : (K3.unpacked b cs n).length ≤ n := by
  unfold K3.unpacked
  rw [List.length_take]
  omega
theorem unpackedFrom_le {l s : Int} {cs : List Int} {n : Nat} : (unpackedFrom l s cs n).length ≤ n := by
  unfold unpackedFrom
  split
  · rw [List.length_replicate]; exact Nat.le_refl _
  · rw [List.length_map]; exact unpacked_le
theorem runs_snoc : ∀ (v : Int) (l : List Int) (x : Int), runs v (l ++ [x]) = runs v l ++ [(runs v l).getLastD 0 + x]
  | v, [], x => rfl
  | v, s :: r, x => by
    show v :: runs (v + s) (r ++ [x]) = v :: runs (v + s) r ++ [(v :: runs (v + s) r).getLastD 0 + x]
    rw [runs_snoc (v + s) r x]
    have e : (v :: runs (v + s) r).getLastD 0 = (runs (v + s) r).getLastD 0 := by
      cases r <;> rfl
    rw [e]
    rfl
theorem runs_ne (v : Int) (l : List Int) : runs v l ≠ [] := by
  cases l <;> exact List.cons_ne_nil _ _
theorem runs_length : ∀ (v : Int) (l : List Int), (runs v l).length = l.length + 1
  | _, [] => rfl
  | v, s :: r => congrArg Nat.succ (runs_length (v + s) r)
theorem at_last {ns : List Int} (h : ns ≠ []) : atI (ns.map V.int) (-1) = some (.int (ns.getLastD 0)) := by
  obtain ⟨l, x, rfl⟩ : ∃ l x, ns = l ++ [x] := ⟨ns.dropLast, ns.getLast h, (List.dropLast_concat_getLast h).symm⟩
  rw [List.map_append]
  have e : (l ++ [x]).getLastD 0 = x := by simp
  rw [e]
  exact atI_last _ _
section
variable {P : Program} {w : World} {K : PySem.W.Frag} {mg : Str → Option Value} {base : Heap}
abbrev s_room : Stmt := top 34
abbrev N_room : List Str := ["form", "cells", "part"]
abbrev P_room : List Str := ["form"]
theorem sc_room : FnScope N_room P_room (defScope s_room) := ⟨rfl, rfl, rfl, by decide +kernel, rfl, by decide +kernel, by decide +kernel⟩
/-- the parts' sizes -/
inductive Wt (K : PySem.W.Frag) (H : Hp) : V → Nat → Prop where
  | str (x : Str) : Wt K H (.str x) 1
  | int (i : Int) : Wt K H (.int i) 1
  | tup {t : Addr} {xs : List V} (h : SqT K H t xs) : Wt K H (.ref t) xs.length
theorem parts {H : Hp} {a : Addr} {F : Form} (h : IsF K H a F) : ∃ ps ws, SqT K H a ps ∧ Paired (Wt K H) ps ws ∧ ws.sum = room F := by
  cases F with
  | plain vs =>
    obtain ⟨q, h1, h2⟩ := h
    exact ⟨_, _, h1, .cons (.str _) (.cons (.tup h2) .nil), by simp [room, List.length_map]⟩
  | one n v => exact ⟨_, _, h, .cons (.str _) (.cons (.int _) (.cons (.int _) .nil)), rfl⟩
  | codes n u c =>
    obtain ⟨q, r, h1, h2, h3⟩ := h
    exact ⟨_, _, h1, .cons (.str _) (.cons (.int _) (.cons (.tup h2) (.cons (.tup h3) .nil))), by simp [room, List.length_map]; omega⟩
  | near n l s c =>
    obtain ⟨r, h1, h3⟩ := h
    exact ⟨_, _, h1, .cons (.str _) (.cons (.int _) (.cons (.int _) (.cons (.int _) (.cons (.tup h3) .nil)))), by simp [room, List.length_map]; omega⟩
  | steps n f l s c =>
    obtain ⟨r, h1, h3⟩ := h
    exact ⟨_, _, h1, .cons (.str _) (.cons (.int _) (.cons (.int _) (.cons (.int _) (.cons (.int _) (.cons (.tup h3) .nil))))), by simp [room, List.length_map]; omega⟩
theorem paired_at {α β : Type} {R : α → β → Prop} {x : α} : ∀ {xs : List α} {ys : List β} {i : Nat}, Paired R xs ys → xs[i]? = some x → ∃ y, ys[i]? = some y ∧ R x y
  | _, _, _, .nil, e => by simp at e
  | _, _, 0, .cons r _, e => by
    obtain rfl := Option.some.inj e
    exact ⟨_, rfl, r⟩
  | _, _, i + 1, .cons _ t, e => paired_at (i := i) t e
theorem sum_more {l : List Nat} {i : Nat} {x : Nat} (h : l[i]? = some x) : (l.take (i + 1)).sum = (l.take i).sum + x := by
  rw [take_more h, List.sum_append]
  simp
def spRoom (K : PySem.W.Frag) : Sp := fun vs H Q _ => ∃ (a : Addr) (F : Form), vs = [.ref a] ∧ IsF K H a F ∧ Q (.int (K3.room F : Int)) H
theorem ok_room (T : Txt mg) (D : Df K mg "room" s_room P_room) : Fn P w K mg base CX0 1 "room" P_room (spRoom K) := by
  refine D.ok sc_room (fun vs H Q E h => ?_) (fun f cdv A outer s H vs Q E hr h => ?_)
  · obtain ⟨a, F, rfl, _⟩ := h
    rfl
  · obtain ⟨a, F, rfl, hF, k⟩ := h
    have nd := sc_room.nd
    refine ⟨_, (pss_cons (ps_set (i := 1) nd rfl (by first | exact Or.inl rfl | exact Or.inr rfl) pe_int)
  (pss_cons (ps_for PassesOwn.never rfl (pi_tup (pv 0)) (pg_name (i := 2) nd rfl (by first | exact Or.inl rfl | exact Or.inr rfl))
  (pss_one (ps_if (pt_val (pe_callB call_isi (by rfl) T.b_isinstance (by decide +kernel) (pa_cons (pv 2) (pa_cons (pe_bltn (v := .ty "tuple") (by rfl) T.b_tuple boot_tuple rfl) pa_nil))))
  (pss_one (ps_aug (i := 1) nd rfl (by first | exact Or.inl rfl | exact Or.inr rfl) (pe_callB call_len_seq (by rfl) T.b_len (by decide +kernel) (pa_cons (pv 2) pa_nil)) ip_add))
  (pss_one (ps_aug (i := 1) nd rfl (by first | exact Or.inl rfl | exact Or.inr rfl) pe_int ip_add)))))
  (pss_one (ps_ret (pv 1))))), ?_⟩
    obtain ⟨ps, ws, hps, pr, hw⟩ := parts hF
    have hlen : ps.length = ws.length := Paired.length pr
    refine ⟨_, rfl, a, rfl, ⟨_, hps⟩, for_it walk_tup (fun i σ H' => ∃ v, σ = [some (.ref a), some (.int ((ws.take i).sum : Int)), v] ∧ H' = H) ⟨none, rfl, rfl⟩ (fun i σ H' _ ⟨_, _, e⟩ => e ▸ hps) ?_ ?_⟩
    · rintro i x σ H2 H3 hi ⟨v, rfl, rfl⟩ ⟨rfl, e⟩
      obtain ⟨y, hy, R⟩ := paired_at pr e
      have hs := sum_more hy
      cases R with
      | str z =>
        refine ⟨_, rfl, _, .ty "tuple", .type "str", .type "tuple", false, rfl, .ty _, .base (.str _), kit_ty (by decide +kernel), _, rfl, ?_⟩
        refine ite2 (fun c => absurd c (by decide)) (fun _ => ⟨_, rfl, _, _, rfl, rfl, some (.str z), ?_, rfl⟩)
        rw [hs]
        rfl
      | int z =>
        refine ⟨_, rfl, _, .ty "tuple", .type "int", .type "tuple", false, rfl, .ty _, .base (.int _), kit_ty (by decide +kernel), _, rfl, ?_⟩
        refine ite2 (fun c => absurd c (by decide)) (fun _ => ⟨_, rfl, _, _, rfl, rfl, some (.int z), ?_, rfl⟩)
        rw [hs]
        rfl
      | @tup q _ hx =>
        refine ⟨_, rfl, _, .ty "tuple", .type "tuple", .type "tuple", true, rfl, .ty _, tyX_seqT hx, kit_ty (by decide +kernel), _, rfl, ?_⟩
        refine ite2 (fun _ => ⟨_, rfl, _, rfl, _, _, rfl, .inr hx, _, _, rfl, rfl, some (.ref q), ?_, rfl⟩) (fun c => absurd rfl c)
        rw [hs]
        rfl
    · rintro σ H' ⟨v, rfl, rfl⟩
      rw [hlen, List.take_length, hw]
      exact ⟨_, rfl, k⟩
end
end K3

set_option Elab.async false
set_option linter.all false
set_option maxRecDepth 100000
set_option maxHeartbeats 4000000
namespace K3
open PySem PySem.Spec PyProof.Rows L2
/-! ### makers and readers by their names -/
def nms : List Str := ["plain", "one", "codes", "near", "steps"]
def nmOf (i : Nat) : Str := nms.getD i Str.empty
def mk : Nat → List Int → Option Form
  | 0 => mkPlain
  | 1 => mkOne
  | 2 => mkCodes
  | 3 => mkNear
  | _ => mkSteps
def kindOf : Nat → Form → Prop
  | 0 => isPlain
  | 1 => isOne
  | 2 => isCodes
  | 3 => isNear
  | _ => isSteps
/-- the fewest cells by the first i forms -/
def lr (ns : List Int) : Nat → Nat
  | 0 => 1 + ns.length
  | i + 1 => match mk i ns with
    | some F => if room F < lr ns i then room F else lr ns i
    | none => lr ns i
theorem packed_le {b : Int} (hb : b ≤ 10000) (ns : List Int) : (packed b ns).length ≤ ns.length := pack_le b (perC_pos hb) _ _
theorem packedFrom_le {l s : Int} (hs : s ≤ 9999) (ns : List Int) : (packedFrom l s ns).length ≤ ns.length := by
  unfold packedFrom
  split
  · exact Nat.zero_le _
  · have h := packed_le (b := s + 1) (by omega) (ns.map (· - l))
    rwa [List.length_map] at h
theorem mk_ok {ns : List Int} (G : Good ns) : ∀ {i : Nat} {F : Form}, mk i ns = some F → FOk F
  | 0, F, h => by
    obtain rfl : Form.plain ns = F := Option.some.inj h
    have := G.few
    show ns.length ≤ 1000
    omega
  | 1, F, h => by
    have h : mkOne ns = some F := h
    unfold mkOne at h
    split at h
    · cases h
    · cases h
      have := G.few
      show ns.length ≤ 1000
      omega
  | 2, F, h => by
    have h : mkCodes ns = some F := h
    unfold mkCodes at h
    split at h
    · cases h
    · cases h
      have h1 := G.few
      have h2 := usort_length ns
      have h3 := packed_le (b := ((usort ns).length : Int)) (by omega) (ns.map fun v => (idx (usort ns) v : Int))
      rw [List.length_map] at h3
      refine ⟨by omega, by omega, by omega, by omega⟩
  | 3, F, h => by
    have h : mkNear ns = some F := h
    unfold mkNear at h
    split at h
    · cases h
    · rename_i c
      cases h
      have h1 := G.few
      have h2 : lmax ns - lmin ns ≤ 9999 := by omega
      have h3 := packedFrom_le (l := lmin ns) h2 ns
      exact ⟨span_nn G.ne, h2, by omega, by omega⟩
  | n + 4, F, h => by
    have h : mkSteps ns = some F := h
    unfold mkSteps at h
    split at h
    · cases h
    · rename_i c0
      split at h
      · cases h
      · rename_i c
        cases h
        have h1 := G.few
        have h2 : lmax (steps ns) - lmin (steps ns) ≤ 9999 := by omega
        have h3 := packedFrom_le (l := lmin (steps ns)) h2 (steps ns)
        have h4 := steps_length ns
        exact ⟨span_nn (steps_ne c0), h2, by omega, by omega, by omega⟩
/-- what stands at names of the module -/
structure Exc1 (K : PySem.W.Frag) (mg : Str → Option Value) (x : Str) (C : Addr) : Prop where
  g : mg x = some (.ref C)
  x : PySem.W.excIn K C [.type "ValueError", .type "Exception", .type "BaseException", .type "object"] "ValueError.__new__" = true
  k : PySem.W.keepIn K (.ref C) = true
  b : PySem.W.subIn K (.ref C) (.type "BaseException") = some true
  t : PySem.W.typeIn K (.ref C) = some (.type "type")
section
variable {X : Cx} {k i : Nat} {x : Str} {p pos : Pos} {e : Expr} {es : List Expr} {t : TA}
/-- a call of a def that a slot holds, whichever it is -/
def tCallH (P : Program) (w : World) (K : PySem.W.Frag) (mg : Str → Option Value) (base : Heap) (k i : Nat) (t : TA) : TE := fun σ H Q => ∃ f sp, σ[i]? = some (some (.ref f)) ∧ Held P w K mg base k f sp ∧ t σ H fun vs H1 => sp vs H1 Q (fun _ _ _ => False)
theorem pe_callH (hr : Room k X.A) (hN : X.N[i]? = some x) (hv : Vis X.env.scope x) (ha : PA X (e :: es) t)
    (hdb : (x == ("__debug__" : Str)) = false := by decide) (hcd : (x == ("__classdict__" : Str)) = false := by decide)
    (he : starEach (e :: es) X.env = (false, eval e X.env) :: starEach es X.env := by rfl) (hpl : (backTo pos (starEach es X.env)).any (·.1) = false := by rfl) : PE X (.Call (.Name x p) (e :: es) [] pos) (tCallH X.prog X.w X.K X.mg X.base k i t) := by
  refine ⟨fun pins s σ H Q I ⟨f, sp, hs, hh, ht⟩ => ?_⟩
  refine (pe_callA (i := i) (S := fun g => if g = f then some sp else none) (fun g sp' h => ?_) hr hN hv ha hdb hcd he hpl).run pins s σ H Q I ⟨f, sp, hs, if_pos rfl, ht⟩
  split at h
  · rename_i c
    subst c
    obtain rfl := Option.some.inj h
    exact hh
  · cases h
end
section
variable {P : Program} {w : World} {K : PySem.W.Frag} {mg : Str → Option Value} {base : Heap}
/-- the table of makers at d -/
structure Makers (P : Program) (w : World) (K : PySem.W.Frag) (mg : Str → Option Value) (base : Heap) (d : Addr) : Prop where
  g : mg "MAKERS" = some (.ref d)
  keys : KKeys K w d nms
  all : ∀ i, i < 5 → ∃ f, Held P w K mg base 5 f (spMk K (mk i)) ∧ KDct K w d (nmOf i) (.ref f)
structure Readers (P : Program) (w : World) (K : PySem.W.Frag) (mg : Str → Option Value) (base : Heap) (d : Addr) : Prop where
  g : mg "READERS" = some (.ref d)
  all : ∀ i, i < 5 → ∃ f, Held P w K mg base 5 f (spRd K (kindOf i)) ∧ KDct K w d (nmOf i) (.ref f)
def spLaid (K : PySem.W.Frag) (CN : Addr) : Sp := fun vs H Q E => ∃ (i : Nat) (a : Addr) (ns : List Int), vs = [.str (nmOf i), .ref a] ∧ i < 5 ∧ SqL K H a (ns.map V.int) ∧ Good ns ∧
  (∀ F, mk i ns = some F → ∀ (H' : Hp) (p : Addr), Same H H' → IsF K H' p F → Q (.ref p) H') ∧ (mk i ns = none → ∀ H', Same H H' → E (.ref CN) none H')
theorem nm_length : ∀ {i : Nat}, i < 5 → (nmOf i).length ≤ 5
  | 0, _ => by decide
  | 1, _ => by decide
  | 2, _ => by decide
  | 3, _ => by decide
  | 4, _ => by decide
  | n + 5, h => absurd h (by omega)
abbrev s_least_form : Stmt := top 33
abbrev N_least_form : List Str := ["values", "least", "name", "maker", "form"]
abbrev P_least_form : List Str := ["values"]
theorem sc_least_form : FnScope N_least_form P_least_form (defScope s_least_form) := ⟨rfl, rfl, rfl, by decide +kernel, rfl, by decide +kernel, by decide +kernel⟩
def spLeast (K : PySem.W.Frag) : Sp := fun vs H Q _ => ∃ (a : Addr) (ns : List Int), vs = [.ref a] ∧ SqL K H a (ns.map V.int) ∧ Good ns ∧
  ∀ (H' : Hp) (p : Addr) (F : Form), Same H H' → IsF K H' p F → K3.room F = lr ns 5 → Q (.ref p) H'
theorem ok_least_form {d : Addr} (T : Txt mg) (M : Makers P w K mg base d) (D : Df K mg "least_form" s_least_form P_least_form) (G_check_values : Fn P w K mg base CX0 1 "check_values" P_check_values (spChV K))
    (G_make_plain : Fn P w K mg base CX0 1 "make_plain" P_make_plain (spMk K mkPlain)) (G_room : Fn P w K mg base CX0 1 "room" P_room (spRoom K)) : Fn P w K mg base CX0 6 "least_form" P_least_form (spLeast K) := by
  refine D.ok sc_least_form (fun vs H Q E h => ?_) (fun f cdv A outer s H vs Q E hr h => ?_)
  · obtain ⟨a, ns, rfl, _⟩ := h
    rfl
  · obtain ⟨a, ns, rfl, hS, G, k⟩ := h
    have nd := sc_least_form.nd
    have hM := M.g
    refine ⟨_, (pss_cons (ps_expr (pe_c G_check_values (hr.mono (by decide)) pass0 (pa_cons (pv 0) pa_nil)))
  (pss_cons (ps_set (i := 1) nd rfl (by first | exact Or.inl rfl | exact Or.inr rfl) (pe_c G_make_plain (hr.mono (by decide)) pass0 (pa_cons (pv 0) pa_nil)))
  (pss_cons (ps_for PassesOwn.never rfl (pi_ks (pe_glob (v := .ref d) (by rfl) hM rfl)) (pg_name (i := 2) nd rfl (by first | exact Or.inl rfl | exact Or.inr rfl))
  (pss_cons (ps_set (i := 3) nd rfl (by first | exact Or.inl rfl | exact Or.inr rfl) (pe_ix ix_kdict (pe_glob (v := .ref d) (by rfl) hM rfl) (pv 2) (fun _ _ => rfl)))
  (pss_cons (ps_set (i := 4) nd rfl (by first | exact Or.inl rfl | exact Or.inr rfl) (pe_callH (k := 5) (i := 3) (hr.mono (by decide)) rfl (.inl rfl) (pa_cons (pv 0) pa_nil)))
  (pss_one (ps_if (PW.pt (pw_and (pt_cmpR op_notN (pv 4) pe_non (nomark _)) (pw_and1 (pt_cmpR op_lt (pe_c G_room (hr.mono (by decide)) pass0 (pa_cons (pv 4) pa_nil)) (pe_c G_room (hr.mono (by decide)) pass0 (pa_cons (pv 1) pa_nil)) (nomark _)))))
  (pss_one (ps_set (i := 1) nd rfl (by first | exact Or.inl rfl | exact Or.inr rfl) (pv 4)))
  pss_nil)))))
  (pss_one (ps_ret (pv 1)))))), ?_⟩
    refine ⟨_, rfl, a, ns, rfl, hS, G, fun H1 s1 => ?_⟩
    refine ⟨_, rfl, a, ns, rfl, s1.seq hS, G, (fun z => nomatch z), fun F hF H2 p s2 hp => ?_⟩
    obtain rfl : Form.plain ns = F := Option.some.inj hF
    refine ⟨d, nms, rfl, M.keys, for_it walk_ks (fun i σ H' => ∃ (q : Addr) (F : Form) (v2 v3 v4 : Option V), σ = [some (.ref a), some (.ref q), v2, v3, v4] ∧ Same H H' ∧ IsF K H' q F ∧ K3.room F = lr ns i) ⟨p, .plain ns, none, none, none, rfl, s1.trans s2, hp, rfl⟩ (fun _ _ _ _ _ => True.intro) ?_ ?_⟩
    · rintro i x σ H3 H4 hi ⟨q, F, v2, v3, v4, rfl, s3, hq, hl⟩ ⟨rfl, z, hz, rfl⟩
      have hi : i < 5 := hi
      obtain rfl : nmOf i = z := by
        unfold nmOf
        rw [List.getD_eq_getElem?_getD, hz]
        rfl
      obtain ⟨fm, hh, hkd⟩ := M.all i hi
      refine ⟨_, rfl, d, nmOf i, _, rfl, rfl, hkd, ?_⟩
      refine ⟨fm, _, rfl, hh, _, rfl, a, ns, rfl, s3.seq hS, G, fun hn H5 s5 => ?_, fun F5 hF5 H5 p5 s5 hp5 => ?_⟩
      · refine ⟨_, rfl, rfl, _, rfl, ?_⟩
        refine ite2 (fun c => absurd c (by decide)) (fun _ => ?_)
        refine ite2 (fun c => absurd c (by decide)) (fun _ => ?_)
        refine ⟨q, F, _, _, _, rfl, s3.trans s5, hq.same s5, ?_⟩
        show K3.room F = (match mk i ns with | some F => if K3.room F < lr ns i then K3.room F else lr ns i | none => lr ns i)
        rw [hn]
        exact hl
      · refine ⟨_, rfl, rfl, _, rfl, ?_⟩
        refine ite2 (fun _ => ?_) (fun c => absurd rfl c)
        refine ⟨_, rfl, p5, F5, rfl, hp5, _, rfl, q, F, rfl, hq.same s5, _, _, rfl, rfl, _, rfl, ?_⟩
        have el : lr ns (i + 1) = if K3.room F5 < lr ns i then K3.room F5 else lr ns i := by
          show (match mk i ns with | some F => if K3.room F < lr ns i then K3.room F else lr ns i | none => lr ns i) = _
          rw [hF5]
        refine ite2 (fun c => ?_) (fun c => ?_)
        · have c' : (K3.room F5 : Int) < (K3.room F : Int) := of_decide_eq_true c
          refine ⟨_, rfl, p5, F5, _, _, _, rfl, s3.trans s5, hp5, ?_⟩
          rw [el, if_pos (by omega)]
        · have c' : ¬ (K3.room F5 : Int) < (K3.room F : Int) := fun z => c (decide_eq_true z)
          refine ⟨q, F, _, _, _, rfl, s3.trans s5, hq.same s5, ?_⟩
          rw [el, if_neg (by omega)]
          exact hl
    · rintro σ H' ⟨q, F, v2, v3, v4, rfl, s3, hq, hl⟩
      exact ⟨_, rfl, k _ q F s3 hq hl⟩
def spVof (K : PySem.W.Frag) : Sp := fun vs H Q _ => ∃ (a : Addr) (F : Form), vs = [.ref a] ∧ IsF K H a F ∧ FOk F ∧
  ∀ (H' : Hp) (p : Addr), Same H H' → H p = none → H' p = some (.lst ((readF F).map V.int)) → Q (.ref p) H'
theorem named {H : Hp} {a : Addr} {F : Form} (h : IsF K H a F) : ∃ i ps, i < 5 ∧ kindOf i F ∧ SqT K H a (.str (nmOf i) :: ps) := by
  cases F with
  | plain vs => obtain ⟨q, h1, _⟩ := h; exact ⟨0, _, by decide, True.intro, h1⟩
  | one n v => exact ⟨1, _, by decide, True.intro, h⟩
  | codes n u c => obtain ⟨q, r, h1, _⟩ := h; exact ⟨2, _, by decide, True.intro, h1⟩
  | near n l s c => obtain ⟨r, h1, _⟩ := h; exact ⟨3, _, by decide, True.intro, h1⟩
  | steps n f l s c => obtain ⟨r, h1, _⟩ := h; exact ⟨4, _, by decide, True.intro, h1⟩
end
end K3

set_option Elab.async false
set_option linter.all false
set_option maxRecDepth 100000
set_option maxHeartbeats 4000000
namespace K3
open PySem PySem.Spec PyProof.Rows L2
theorem pe_cS {X : Cx} {CX : CXT} {k : Nat} {ps : List Str} {sp : Sp} {E : L2.St → XK} {x : Str} {p pos : Pos} {e : Expr} {es : List Expr} {t : TA} (F : Fn X.prog X.w X.K X.mg X.base CX k x ps sp) (hr : Room k X.A) (hx : ∀ σ, PassesAt CX X σ (E σ)) (ha : PA X (e :: es) t) (hg : Gl X x := by rfl) (hdb : (x == ("__debug__" : Str)) = false := by decide)
    (he : starEach (e :: es) X.env = (false, eval e X.env) :: starEach es X.env := by rfl) (hpl : (backTo pos (starEach es X.env)).any (·.1) = false := by rfl) : PE X (.Call (.Name x p) (e :: es) [] pos) (tCallS sp E t) := by
  obtain ⟨f, fd, G, hm, hk, hb⟩ := F.ex
  exact pe_callS G hr hg hm hk hb hx ha hdb he hpl
/-! ### what is kept of tuples -/
/-- all that can't change is as it was -/
def SameT (H H' : Hp) : Prop := ∀ b o, H b = some o → ((∃ xs, o = .tup xs) ∨ ∃ ob xs, o = .frz ob (.tup xs)) → H' b = some o
theorem SameT.of {H H' : Hp} (s : Same H H') : SameT H H' := fun b o e _ => s b o e
theorem SameT.refl (H : Hp) : SameT H H := fun _ _ e _ => e
theorem SameT.trans {H H1 H2 : Hp} (a : SameT H H1) (b : SameT H1 H2) : SameT H H2 := fun c o e h => b c o (a c o e h) h
theorem SameT.lst {H : Hp} {p : Addr} {xs ys : List V} (e : H p = some (.lst xs)) : SameT H (upd H p (.lst ys)) := fun b o h k => by
  rw [upd_ne (ne_of h e (fun z => by rcases k with ⟨_, k⟩ | ⟨_, _, k⟩ <;> rw [k] at z <;> cases z))]
  exact h
theorem SameT.dct {H : Hp} {p : Addr} {kvs : List (Key × V)} {o : HO} (e : H p = some (.dK kvs)) : SameT H (upd H p o) := fun b u h k => by
  rw [upd_ne (ne_of h e (fun z => by rcases k with ⟨_, k⟩ | ⟨_, _, k⟩ <;> rw [k] at z <;> cases z))]
  exact h
theorem SameT.upd {H : Hp} {p : Addr} {o0 o : HO} (e : H p = some o0) (n1 : ∀ xs, HO.tup xs ≠ o0) (n2 : ∀ ob xs, HO.frz ob (.tup xs) ≠ o0) : SameT H (L2.upd H p o) := fun b u h k => by
  rw [upd_ne (ne_of h e (fun z => by rcases k with ⟨_, k⟩ | ⟨_, _, k⟩ <;> rw [k] at z; exact n1 _ z; exact n2 _ _ z))]
  exact h
theorem SameT.out {b l : Addr} {H H' : Hp} (B : Bx H b l) (O : Out b l H H') : SameT H H' := fun c o h k => by
  obtain ⟨st, ns, h1, h2, _⟩ := B
  exact O c o (ne_of h h1 (fun z => by rcases k with ⟨_, k⟩ | ⟨_, _, k⟩ <;> rw [k] at z <;> cases z)) (ne_of h h2 (fun z => by rcases k with ⟨_, k⟩ | ⟨_, _, k⟩ <;> rw [k] at z <;> cases z)) h
theorem SameT.seqT {K : PySem.W.Frag} {H H' : Hp} {a : Addr} {xs : List V} (s : SameT H H') (h : SqT K H a xs) : SqT K H' a xs := by
  rcases h with (h | ⟨o, h⟩) | h
  · exact .inl (.inl (s _ _ h (.inl ⟨_, rfl⟩)))
  · exact .inl (.inr ⟨o, s _ _ h (.inr ⟨_, _, rfl⟩)⟩)
  · exact .inr h
theorem IsF.keep {K : PySem.W.Frag} {H H' : Hp} {a : Addr} {F : Form} (h : IsF K H a F) (s : SameT H H') : IsF K H' a F := by
  cases F with
  | plain vs => obtain ⟨q, h1, h2⟩ := h; exact ⟨q, s.seqT h1, s.seqT h2⟩
  | one n v => exact s.seqT (show SqT K H a _ from h)
  | codes n u c => obtain ⟨q, r, h1, h2, h3⟩ := h; exact ⟨q, r, s.seqT h1, s.seqT h2, s.seqT h3⟩
  | near n l sp c => obtain ⟨r, h1, h2⟩ := h; exact ⟨r, s.seqT h1, s.seqT h2⟩
  | steps n f l sp c => obtain ⟨r, h1, h2⟩ := h; exact ⟨r, s.seqT h1, s.seqT h2⟩
/-! ### the forms of values, by their names -/
def made (ns : List Int) : Nat → List (Nat × Form)
  | 0 => []
  | i + 1 => match mk i ns with
    | some F => made ns i ++ [(i, F)]
    | none => made ns i
theorem made_in {ns : List Int} : ∀ {i j : Nat} {F : Form}, (j, F) ∈ made ns i → j < i ∧ mk j ns = some F
  | 0, _, _, h => nomatch h
  | i + 1, j, F, h => by
    have h : (j, F) ∈ (match mk i ns with | some F => made ns i ++ [(i, F)] | none => made ns i) := h
    split at h
    · rename_i F' e
      rcases List.mem_append.mp h with z | z
      · obtain ⟨a, b⟩ := made_in z
        exact ⟨by omega, b⟩
      · obtain ⟨rfl, rfl⟩ := Prod.mk.inj (List.mem_singleton.mp z)
        exact ⟨by omega, e⟩
    · obtain ⟨a, b⟩ := made_in h
      exact ⟨by omega, b⟩
theorem in_made {ns : List Int} : ∀ {i j : Nat} {F : Form}, j < i → mk j ns = some F → (j, F) ∈ made ns i
  | 0, _, _, h, _ => absurd h (by omega)
  | i + 1, j, F, h, e => by
    show (j, F) ∈ (match mk i ns with | some F => made ns i ++ [(i, F)] | none => made ns i)
    by_cases c : j = i
    · subst c
      rw [e]
      exact List.mem_append_right _ (List.mem_singleton.mpr rfl)
    · have z := in_made (i := i) (by omega) e
      split
      · exact List.mem_append_left _ z
      · exact z
theorem made_length {ns : List Int} : ∀ i, (made ns i).length ≤ i
  | 0 => Nat.le_refl 0
  | i + 1 => by
    have ih := made_length (ns := ns) i
    show (match mk i ns with | some F => made ns i ++ [(i, F)] | none => made ns i).length ≤ i + 1
    split
    · rw [List.length_append, List.length_singleton]; omega
    · omega
/-- an entry of the dict is the form -/
def FR (K : PySem.W.Frag) (H : Hp) (kv : Key × V) (jF : Nat × Form) : Prop := kv.1 = .inr (nmOf jF.1) ∧ ∃ p, kv.2 = .ref p ∧ IsF K H p jF.2
theorem nm_inj : ∀ i, i < 5 → ∀ j, j < 5 → nmOf i = nmOf j → i = j := by decide +kernel
theorem fr_keep {K : PySem.W.Frag} {H H' : Hp} {kvs : List (Key × V)} {l : List (Nat × Form)} (h : Paired (FR K H) kvs l) (s : SameT H H') : Paired (FR K H') kvs l := Paired.mapP h fun _ _ ⟨a, p, b, c⟩ => ⟨a, p, b, c.keep s⟩
theorem val_none {K : PySem.W.Frag} {H : Hp} {j : Nat} (hj : j < 5) : ∀ {kvs : List (Key × V)} {l : List (Nat × Form)}, Paired (FR K H) kvs l → (∀ q ∈ l, q.1 < 5 ∧ q.1 ≠ j) → valV kvs (.inr (nmOf j)) = none
  | _, _, .nil, _ => rfl
  | _, _, .cons (a := kv) (b := q) r t, h => by
    obtain ⟨h1, h2⟩ := h q (List.mem_cons_self ..)
    rw [valV_neg (fun e => h2 (nm_inj _ h1 _ hj (Sum.inr.inj (r.1.symm.trans e))))]
    exact val_none hj t fun q hq => h q (List.mem_cons_of_mem _ hq)
theorem val_some {K : PySem.W.Frag} {H : Hp} {j : Nat} {F : Form} (hj : j < 5) : ∀ {kvs : List (Key × V)} {l : List (Nat × Form)}, Paired (FR K H) kvs l → (∀ q ∈ l, q.1 < 5) → (∀ G, (j, G) ∈ l → G = F) → (j, F) ∈ l → ∃ p, valV kvs (.inr (nmOf j)) = some (.ref p) ∧ IsF K H p F
  | _, _, .nil, _, _, h => nomatch h
  | _, _, .cons (a := kv) (b := q) r t, h, u, m => by
    by_cases c : q.1 = j
    · obtain ⟨r1, p, r2, r3⟩ := r
      rw [valV_pos (r1.trans (by rw [c])), r2]
      have e : q.2 = F := u q.2 (by rw [← c]; exact List.mem_cons_self ..)
      rw [e] at r3
      exact ⟨p, rfl, r3⟩
    · rw [valV_neg (fun e => c (nm_inj _ (h q (List.mem_cons_self ..)) _ hj (Sum.inr.inj (r.1.symm.trans e))))]
      refine val_some hj t (fun q hq => h q (List.mem_cons_of_mem _ hq)) (fun G hG => u G (List.mem_cons_of_mem _ hG)) ?_
      rcases List.mem_cons.mp m with z | z
      · exact absurd (by rw [← z]) c
      · exact z
theorem paired_snoc {α β : Type} {R : α → β → Prop} {x : α} {y : β} : ∀ {xs : List α} {ys : List β}, Paired R xs ys → R x y → Paired R (xs ++ [x]) (ys ++ [y])
  | _, _, .nil, r => .cons r .nil
  | _, _, .cons h t, r => .cons h (paired_snoc t r)
section
variable {P : Program} {w : World} {K : PySem.W.Frag} {mg : Str → Option Value} {base : Heap}
/-- at d the forms of values -/
structure Fms (K : PySem.W.Frag) (H : Hp) (ns : List Int) (kvs : List (Key × V)) : Prop where
  pr : Paired (FR K H) kvs (made ns 5)
theorem Fms.keep {H H' : Hp} {ns : List Int} {kvs : List (Key × V)} (h : Fms K H ns kvs) (s : SameT H H') : Fms K H' ns kvs := ⟨fr_keep h.pr s⟩
theorem Fms.some_ {H : Hp} {ns : List Int} {kvs : List (Key × V)} (h : Fms K H ns kvs) {j : Nat} {F : Form} (hj : j < 5) (e : K3.mk j ns = some F) : ∃ p, valV kvs (.inr (nmOf j)) = some (.ref p) ∧ IsF K H p F :=
  val_some hj h.pr (fun q hq => (made_in (j := q.1) (F := q.2) hq).1) (fun G hG => Option.some.inj ((made_in hG).2.symm.trans e)) (in_made hj e)
theorem Fms.none_ {H : Hp} {ns : List Int} {kvs : List (Key × V)} (h : Fms K H ns kvs) {j : Nat} (hj : j < 5) (e : K3.mk j ns = none) : valV kvs (.inr (nmOf j)) = none :=
  val_none hj h.pr fun q hq => ⟨(made_in (j := q.1) (F := q.2) hq).1, fun c => by
    have z := (made_in (j := q.1) (F := q.2) hq).2
    rw [c, e] at z
    cases z⟩
end
end K3

set_option linter.all false
/-! K3L: what the law compares, in plain Lean -/
namespace K3
theorem lr_le {ns : List Int} : ∀ {i j : Nat} {F : Form}, j < i → mk j ns = some F → lr ns i ≤ room F
  | 0, _, _, h, _ => absurd h (by omega)
  | i + 1, j, F, h, e => by
    show (match mk i ns with | some F => if room F < lr ns i then room F else lr ns i | none => lr ns i) ≤ room F
    by_cases c : j = i
    · subst c
      rw [e]
      show (if room F < lr ns j then room F else lr ns j) ≤ room F
      split <;> omega
    · have ih := lr_le (i := i) (j := j) (by omega) e
      split
      · split <;> omega
      · exact ih
theorem lr_mem {ns : List Int} : ∀ i, ∃ j F, j < i + 1 ∧ mk j ns = some F ∧ room F = lr ns (i + 1)
  | 0 => by
    refine ⟨0, .plain ns, by omega, rfl, ?_⟩
    show 1 + ns.length = (if 1 + ns.length < 1 + ns.length then 1 + ns.length else 1 + ns.length)
    split <;> rfl
  | i + 1 => by
    obtain ⟨j, F, h1, h2, h3⟩ := lr_mem (ns := ns) i
    cases e : mk (i + 1) ns with
    | none =>
      refine ⟨j, F, by omega, h2, ?_⟩
      show _ = (match mk (i + 1) ns with | some F => if room F < lr ns (i + 1) then room F else lr ns (i + 1) | none => lr ns (i + 1))
      rw [e]
      exact h3
    | some G =>
      have eq : lr ns (i + 1 + 1) = if room G < lr ns (i + 1) then room G else lr ns (i + 1) := by
        show (match mk (i + 1) ns with | some F => if room F < lr ns (i + 1) then room F else lr ns (i + 1) | none => lr ns (i + 1)) = _
        rw [e]
      by_cases c : room G < lr ns (i + 1)
      · exact ⟨i + 1, G, by omega, e, by rw [eq, if_pos c]⟩
      · exact ⟨j, F, by omega, h2, by rw [eq, if_neg c]; exact h3⟩
/-- the least of the rooms is that of the least form -/
theorem least_room {ns : List Int} {m : Int} (h1 : m ∈ (made ns 5).map fun q => (room q.2 : Int)) (h2 : ∀ y ∈ (made ns 5).map fun q => (room q.2 : Int), m ≤ y) : m = (lr ns 5 : Int) := by
  obtain ⟨j, F, j1, j2, j3⟩ := lr_mem (ns := ns) 4
  have a := h2 (room F : Int) (List.mem_map.mpr ⟨(j, F), in_made j1 j2, rfl⟩)
  obtain ⟨⟨k, G⟩, hk, rfl⟩ := List.mem_map.mp h1
  obtain ⟨k1, k2⟩ := made_in hk
  have b := lr_le k1 k2
  show (room G : Int) = (lr ns 5 : Int)
  have a : (room G : Int) ≤ (room F : Int) := a
  have j3 : room F = lr ns 5 := j3
  omega
/-- values of the same length, as far apart, as many unlike ones -/
structure Sim (vs ws : List Int) : Prop where
  len : ws.length = vs.length
  span : lmax ws - lmin ws = lmax vs - lmin vs
  unl : (usort ws).length = (usort vs).length
theorem packed_len {b : Int} {vs ws : List Int} (h : ws.length = vs.length) : (packed b ws).length = (packed b vs).length := by
  unfold packed
  rw [h]
  exact pack_length b b _ _ ws vs h
theorem sim_room {vs ws : List Int} (s : Sim vs ws) : ∀ {i : Nat}, i < 4 → (mk i ws).map room = (mk i vs).map room
  | 0, _ => by
    show some (1 + ws.length) = some (1 + vs.length)
    rw [s.len]
  | 1, _ => by
    show (mkOne ws).map room = (mkOne vs).map room
    have h := s.span
    unfold mkOne
    by_cases c : lmin vs < lmax vs
    · rw [if_pos c, if_pos (by omega)]
    · rw [if_neg c, if_neg (by omega)]
      rfl
  | 2, _ => by
    show (mkCodes ws).map room = (mkCodes vs).map room
    have h := s.unl
    unfold mkCodes
    by_cases c : (usort vs).length < 2
    · rw [if_pos c, if_pos (by omega)]
    · rw [if_neg c, if_neg (by omega)]
      show some (2 + (usort ws).length + (packed ((usort ws).length : Int) (ws.map fun v => (idx (usort ws) v : Int))).length) = some (2 + (usort vs).length + (packed ((usort vs).length : Int) (vs.map fun v => (idx (usort vs) v : Int))).length)
      rw [h, packed_len (b := ((usort vs).length : Int)) (vs := vs.map fun v => (idx (usort vs) v : Int)) (ws := ws.map fun v => (idx (usort ws) v : Int)) (by rw [List.length_map, List.length_map, s.len])]
  | 3, _ => by
    show (mkNear ws).map room = (mkNear vs).map room
    have h := s.span
    unfold mkNear
    rw [h]
    by_cases c : lmax vs - lmin vs < 1 ∨ 9999 < lmax vs - lmin vs
    · rw [if_pos c, if_pos c]
    · rw [if_neg c, if_neg c]
      show some (4 + (packedFrom (lmin ws) (lmax vs - lmin vs) ws).length) = some (4 + (packedFrom (lmin vs) (lmax vs - lmin vs) vs).length)
      unfold packedFrom
      split
      · rfl
      · rw [packed_len (vs := vs.map (· - lmin vs)) (ws := ws.map (· - lmin ws)) (by rw [List.length_map, List.length_map, s.len])]
  | n + 4, h => absurd h (by omega)
theorem sim_rev {vs : List Int} (h : vs ≠ []) : Sim vs vs.reverse := by
  obtain ⟨a, b⟩ := lmin_ok h
  obtain ⟨c, d⟩ := lmax_ok h
  have e1 := lmin_eq (ns := vs.reverse) (List.mem_reverse.mpr a) fun y hy => b y (List.mem_reverse.mp hy)
  have e2 := lmax_eq (ns := vs.reverse) (List.mem_reverse.mpr c) fun y hy => d y (List.mem_reverse.mp hy)
  have e3 := usort_eq (ns := vs.reverse) (usort_rises vs) fun k => (mem_usort k vs).trans List.mem_reverse.symm
  exact ⟨List.length_reverse, by rw [← e1, ← e2], by rw [← e3]⟩
theorem sim_shift {vs : List Int} (h : vs ≠ []) (c : Int) : Sim vs (vs.map (· + c)) := by
  obtain ⟨a, b⟩ := lmin_ok h
  obtain ⟨a2, b2⟩ := lmax_ok h
  have e1 := lmin_eq (ns := vs.map (· + c)) (List.mem_map.mpr ⟨_, a, rfl⟩) fun y hy => by
    obtain ⟨z, hz, rfl⟩ := List.mem_map.mp hy
    have := b z hz
    omega
  have e2 := lmax_eq (ns := vs.map (· + c)) (List.mem_map.mpr ⟨_, a2, rfl⟩) fun y hy => by
    obtain ⟨z, hz, rfl⟩ := List.mem_map.mp hy
    have := b2 z hz
    omega
  have e3 := usort_eq (ns := vs.map (· + c)) (u := (usort vs).map (· + c)) (List.pairwise_map.mpr ((usort_rises vs).imp fun {x y} hxy => by omega)) fun k => by
    constructor
    · intro hk
      obtain ⟨z, hz, rfl⟩ := List.mem_map.mp hk
      exact List.mem_map.mpr ⟨z, (mem_usort z vs).mp hz, rfl⟩
    · intro hk
      obtain ⟨z, hz, rfl⟩ := List.mem_map.mp hk
      exact List.mem_map.mpr ⟨z, (mem_usort z vs).mpr hz, rfl⟩
  refine ⟨List.length_map _, ?_, ?_⟩
  · rw [← e1, ← e2]
    omega
  · rw [← e3, List.length_map]
/-- one value alone: the form 'one' -/
theorem one_iff {vs ks : List Int} (h : vs ≠ []) (nd : ks.Nodup) (m : ∀ k, k ∈ ks ↔ k ∈ vs) : ks.length = 1 ↔ ¬ lmin vs < lmax vs := by
  obtain ⟨a, b⟩ := lmin_ok h
  obtain ⟨c, d⟩ := lmax_ok h
  constructor
  · intro e lt
    obtain ⟨k, rfl⟩ : ∃ k, ks = [k] := List.length_eq_one_iff.mp e
    have h1 := List.mem_singleton.mp ((m _).mpr a)
    have h2 := List.mem_singleton.mp ((m _).mpr c)
    omega
  · intro n
    cases ks with
    | nil => exact absurd ((m _).mpr a) (by simp)
    | cons x r =>
      cases r with
      | nil => rfl
      | cons y q =>
        have hx := (m x).mp (List.mem_cons_self ..)
        have hy := (m y).mp (List.mem_cons_of_mem _ (List.mem_cons_self ..))
        have ne : x ≠ y := fun e => (List.nodup_cons.mp nd).1 (by rw [e]; exact List.mem_cons_self ..)
        have := b x hx
        have := b y hy
        have := d x hx
        have := d y hy
        omega
theorem mk_read {ns : List Int} (hv : ns ≠ []) (hl : ns.length ≤ 32) : ∀ {i : Nat} {F : Form}, mk i ns = some F → readF F = ns
  | 0, F, h => by
    obtain rfl : Form.plain ns = F := Option.some.inj h
    rfl
  | 1, F, h => read_one hv h
  | 2, F, h => read_codes hl h
  | 3, F, h => read_near hv h
  | n + 4, F, h => read_steps h
end K3

set_option linter.all false
/-! K5M: the cells of all cuts, in plain Lean -/
namespace K3
/-- a cut of values has so many cells -/
inductive Cost : List Int → Nat → Prop
  | nil : Cost [] 0
  | cons {xs ys : List Int} {i : Nat} {F : Form} {c : Nat} : xs ≠ [] → i < 5 → mk i xs = some F → Cost ys c → Cost (xs ++ ys) (room F + c)
/-- the fewest -/
structure Fewest (vs : List Int) (m : Nat) : Prop where
  is : Cost vs m
  le : ∀ c, Cost vs c → m ≤ c
theorem Fewest.eq {vs : List Int} {m n : Nat} (a : Fewest vs m) (b : Fewest vs n) : m = n := Nat.le_antisymm (a.le _ b.is) (b.le _ a.is)
theorem Cost.app {xs : List Int} {a : Nat} (h : Cost xs a) : ∀ {ys : List Int} {b : Nat}, Cost ys b → Cost (xs ++ ys) (a + b) := by
  induction h with
  | nil =>
    intro ys b k
    rw [List.nil_append, Nat.zero_add]
    exact k
  | cons h1 h2 h3 _ ih =>
    intro ys b k
    rw [List.append_assoc, Nat.add_assoc]
    exact .cons h1 h2 h3 (ih k)
theorem Cost.one {xs : List Int} {i : Nat} {F : Form} (h : xs ≠ []) (hi : i < 5) (e : mk i xs = some F) : Cost xs (room F) := by
  have k := Cost.cons h hi e .nil
  rw [List.append_nil] at k
  exact k
/-- a cut begins with a stretch -/
theorem Cost.head {vs : List Int} {c : Nat} (h : Cost vs c) (hv : vs ≠ []) : ∃ k i F d, 0 < k ∧ k ≤ vs.length ∧ i < 5 ∧ mk i (vs.take k) = some F ∧ Cost (vs.drop k) d ∧ c = room F + d := by
  cases h with
  | nil => exact absurd rfl hv
  | @cons xs ys i F d h1 h2 h3 h4 =>
    refine ⟨xs.length, i, F, d, List.length_pos_iff.mpr h1, by rw [List.length_append]; omega, h2, ?_, ?_, rfl⟩
    · rw [List.take_left']
      · exact h3
      · rfl
    · rw [List.drop_left']
      · exact h4
      · rfl
theorem Cost.cut {vs : List Int} {k i d : Nat} {F : Form} (h0 : 0 < k) (h1 : k ≤ vs.length) (hi : i < 5) (e : mk i (vs.take k) = some F) (h : Cost (vs.drop k) d) : Cost vs (room F + d) := by
  have q := Cost.cons (by
    intro z
    have := congrArg List.length z
    rw [List.length_take, List.length_nil] at this
    omega) hi e h
  rw [List.take_append_drop] at q
  exact q
theorem cost_nil {c : Nat} (h : Cost [] c) : c = 0 := by
  generalize e : ([] : List Int) = vs at h
  cases h with
  | nil => rfl
  | cons h1 _ _ _ =>
    have := congrArg List.length e
    rw [List.length_append] at this
    have := List.length_pos_iff.mpr h1
    simp at *
    omega
/-- no form has more than three cells a value -/
theorem mk_few {ns : List Int} (h : ns ≠ []) (hl : ns.length ≤ 32) : ∀ {i : Nat} {F : Form}, i < 5 → mk i ns = some F → room F ≤ 3 * ns.length
  | 0, F, _, e => by
    obtain rfl : Form.plain ns = F := Option.some.inj e
    have := List.length_pos_iff.mpr h
    show 1 + ns.length ≤ 3 * ns.length
    omega
  | 1, F, _, e => by
    have e : mkOne ns = some F := e
    unfold mkOne at e
    split at e
    · cases e
    · cases e
      have := List.length_pos_iff.mpr h
      show 3 ≤ 3 * ns.length
      omega
  | 2, F, _, e => by
    have e : mkCodes ns = some F := e
    unfold mkCodes at e
    split at e
    · cases e
    · cases e
      have h2 := usort_length ns
      have h3 := packed_le (b := ((usort ns).length : Int)) (by omega) (ns.map fun v => (idx (usort ns) v : Int))
      rw [List.length_map] at h3
      show 2 + (usort ns).length + _ ≤ 3 * ns.length
      omega
  | 3, F, _, e => by
    have e : mkNear ns = some F := e
    unfold mkNear at e
    split at e
    · cases e
    · rename_i c
      cases e
      have h3 := packedFrom_le (l := lmin ns) (s := lmax ns - lmin ns) (by omega) ns
      have h4 : ns.length ≠ 1 := fun z => by
        obtain ⟨v, rfl⟩ := List.length_eq_one_iff.mp z
        have : lmax [v] - lmin [v] = v - v := rfl
        omega
      have := List.length_pos_iff.mpr h
      show 4 + _ ≤ 3 * ns.length
      omega
  | 4, F, _, e => by
    have e : mkSteps ns = some F := e
    unfold mkSteps at e
    split at e
    · cases e
    · split at e
      · cases e
      · rename_i c
        cases e
        have h3 := packedFrom_le (l := lmin (steps ns)) (s := lmax (steps ns) - lmin (steps ns)) (by omega) (steps ns)
        have h4 := steps_length ns
        show 5 + _ ≤ 3 * ns.length
        omega
  | n + 5, _, h, _ => absurd h (by omega)
theorem cost_few {vs : List Int} {c : Nat} (h : Cost vs c) : vs.length ≤ 32 → c ≤ 3 * vs.length := by
  induction h with
  | nil => intro _; exact Nat.zero_le _
  | cons h1 h2 h3 _ ih =>
    intro hl
    rw [List.length_append] at hl ⊢
    have a := mk_few h1 (by omega) h2 h3
    have b := ih (by omega)
    omega
/-- there is a cut -/
theorem cost_some : ∀ {vs : List Int}, ∃ c, Cost vs c
  | [] => ⟨0, .nil⟩
  | v :: r => ⟨_, Cost.one (by simp) (by decide) (rfl : mk 0 (v :: r) = some (.plain (v :: r)))⟩
/-- rising numbers below a bound are few -/
theorem rises_few : ∀ {l : List Int} {lo b : Int}, l.Pairwise (· < ·) → (∀ y ∈ l, lo ≤ y ∧ y < b) → lo ≤ b → (l.length : Int) ≤ b - lo
  | [], lo, b, _, _, h => by
    show (0 : Int) ≤ b - lo
    omega
  | x :: r, lo, b, p, h, _ => by
    have hx := h x (List.mem_cons_self ..)
    obtain ⟨p1, p2⟩ := List.pairwise_cons.mp p
    have ih := rises_few (l := r) (lo := x + 1) (b := b) p2 (fun y hy => ⟨by have := p1 y hy; omega, (h y (List.mem_cons_of_mem _ hy)).2⟩) (by omega)
    rw [List.length_cons]
    omega
end K3

set_option linter.all false
/-! K5P: the fewest cells step by step, from the front, from the end -/
namespace K3
/-- the stretch from i to j -/
def seg (vs : List Int) (i j : Nat) : List Int := (vs.drop i).take (j - i)
theorem seg_length {vs : List Int} {i j : Nat} (h : j ≤ vs.length) : (seg vs i j).length = j - i := by
  unfold seg
  rw [List.length_take, List.length_drop]
  omega
theorem seg_ne {vs : List Int} {i j : Nat} (h : j ≤ vs.length) (l : i < j) : seg vs i j ≠ [] := fun z => by
  have := seg_length (i := i) h
  rw [z] at this
  simp at this
  omega
theorem take_seg {vs : List Int} {i j : Nat} (h : i ≤ j) : vs.take i ++ seg vs i j = vs.take j := by
  have e : j = i + (j - i) := by omega
  conv => rhs; rw [e, List.take_add]
  rfl
theorem seg_drop {vs : List Int} {i j : Nat} (h : i ≤ j) : seg vs i j ++ vs.drop j = vs.drop i := by
  unfold seg
  have e : vs.drop j = (vs.drop i).drop (j - i) := by rw [List.drop_drop]; congr 1; omega
  rw [e, List.take_append_drop]
/-- a cut ends with a stretch -/
theorem Cost.last {vs : List Int} {c : Nat} (h : Cost vs c) : vs ≠ [] → ∃ k i F d, k < vs.length ∧ i < 5 ∧ mk i (vs.drop k) = some F ∧ Cost (vs.take k) d ∧ c = d + room F := by
  induction h with
  | nil => intro z; exact absurd rfl z
  | @cons xs ys i F d h1 h2 h3 h4 ih =>
    intro _
    by_cases hy : ys = []
    · subst hy
      refine ⟨0, i, F, 0, ?_, h2, ?_, .nil, ?_⟩
      · rw [List.append_nil]
        exact List.length_pos_iff.mpr h1
      · rw [List.append_nil]
        exact h3
      · rw [cost_nil h4]
        omega
    · obtain ⟨k, i', F', d', k1, k2, k3, k4, k5⟩ := ih hy
      refine ⟨xs.length + k, i', F', room F + d', by rw [List.length_append]; omega, k2, ?_, ?_, by omega⟩
      · rw [List.drop_append]
        have e1 : xs.drop (xs.length + k) = [] := List.drop_eq_nil_of_le (by omega)
        have e2 : xs.length + k - xs.length = k := by omega
        rw [e1, e2, List.nil_append]
        exact k3
      · rw [List.take_append]
        have e1 : xs.take (xs.length + k) = xs := List.take_of_length_le (by omega)
        have e2 : xs.length + k - xs.length = k := by omega
        rw [e1, e2]
        exact .cons h1 h2 h3 k4
/-- the least form's room -/
theorem lr_at {vs : List Int} : ∃ i F, i < 5 ∧ mk i vs = some F ∧ room F = lr vs 5 := lr_mem 4
theorem fewest_zero {vs : List Int} : Fewest (vs.take 0) 0 := ⟨.nil, fun _ _ => Nat.zero_le _⟩
/-- one place further -/
theorem fewest_next {vs : List Int} {k m : Nat} (hk : k < vs.length) {f : Nat → Nat} (h : ∀ i, i ≤ k → Fewest (vs.take i) (f i)) (hm : ∃ i, i ≤ k ∧ m = f i + lr (seg vs i (k + 1)) 5) (hle : ∀ i, i ≤ k → m ≤ f i + lr (seg vs i (k + 1)) 5) : Fewest (vs.take (k + 1)) m := by
  refine ⟨?_, fun c hc => ?_⟩
  · obtain ⟨i, hi, rfl⟩ := hm
    obtain ⟨q, F, hq, e, er⟩ := lr_at (vs := seg vs i (k + 1))
    rw [← take_seg (show i ≤ k + 1 by omega), ← er]
    exact (h i hi).is.app (Cost.one (seg_ne (by omega) (by omega)) hq e)
  · have hne : vs.take (k + 1) ≠ [] := fun z => by
      have := congrArg List.length z
      rw [List.length_take, List.length_nil] at this
      omega
    obtain ⟨j, q, F, d, j1, j2, j3, j4, rfl⟩ := hc.last hne
    rw [List.length_take] at j1
    have e1 : (vs.take (k + 1)).take j = vs.take j := by rw [List.take_take]; congr 1; omega
    have e2 : (vs.take (k + 1)).drop j = seg vs j (k + 1) := by
      unfold seg
      rw [List.drop_take]
    rw [e1] at j4
    rw [e2] at j3
    have h1 := (h j (by omega)).le _ j4
    have h2 := lr_le j2 j3
    have h3 := hle j (by omega)
    omega
/-- one place ahead -/
theorem fewest_prev {vs : List Int} {i m : Nat} (hi : i < vs.length) {g : Nat → Nat} (h : ∀ j, i < j → j ≤ vs.length → Fewest (vs.drop j) (g j)) (hm : ∃ j, i < j ∧ j ≤ vs.length ∧ m = lr (seg vs i j) 5 + g j) (hle : ∀ j, i < j → j ≤ vs.length → m ≤ lr (seg vs i j) 5 + g j) : Fewest (vs.drop i) m := by
  refine ⟨?_, fun c hc => ?_⟩
  · obtain ⟨j, h1, h2, rfl⟩ := hm
    obtain ⟨q, F, hq, e, er⟩ := lr_at (vs := seg vs i j)
    rw [← seg_drop (show i ≤ j by omega), ← er]
    exact Cost.cons (seg_ne h2 h1) hq e (h j h1 h2).is
  · have hne : vs.drop i ≠ [] := fun z => by
      have := congrArg List.length z
      rw [List.length_drop, List.length_nil] at this
      omega
    obtain ⟨k, q, F, d, k0, k1, k2, k3, k4, rfl⟩ := hc.head hne
    rw [List.length_drop] at k1
    have e1 : (vs.drop i).take k = seg vs i (i + k) := by
      unfold seg
      congr 1
      omega
    have e2 : (vs.drop i).drop k = vs.drop (i + k) := by rw [List.drop_drop]
    rw [e1] at k3
    rw [e2] at k4
    have h1 := (h (i + k) (by omega) (by omega)).le _ k4
    have h2 := lr_le k2 k3
    have h3 := hle (i + k) (by omega) (by omega)
    omega
theorem fewest_end {vs : List Int} : Fewest (vs.drop vs.length) 0 := by
  rw [List.drop_length]
  exact ⟨.nil, fun _ _ => Nat.zero_le _⟩
/-- no stretch has fewer cells than what its ends' prices differ by -/
theorem fewest_gap {vs : List Int} {i j a b q : Nat} {F : Form} (l : i < j) (hj : j ≤ vs.length) (ha : Fewest (vs.take i) a) (hb : Fewest (vs.take j) b) (hq : q < 5) (e : mk q (seg vs i j) = some F) : b ≤ a + room F := by
  refine hb.le _ ?_
  rw [← take_seg (show i ≤ j by omega)]
  exact ha.is.app (Cost.one (seg_ne hj l) hq e)
end K3

set_option linter.all false
/-! KC: the fewest cells of a stretch by its length, unlike values, spans -/
namespace K3
/-- cells of packed numbers; none for a base of 1 -/
def pcells (b : Int) (n : Nat) : Nat := if b = 1 then 0 else cells (perC b) n
/-- as the program reckons: n values, u unlike, spans s and t -/
def fcells (n u : Nat) (s t : Int) : Nat :=
  if u = 1 then min (1 + n) 3 else
    let a := min (1 + n) (2 + u + pcells u n)
    let b := if s ≤ 9999 then min a (4 + pcells (s + 1) n) else a
    if t ≤ 9999 then min b (5 + pcells (t + 1) (n - 1)) else b
theorem packed_cells {b : Int} (hb : b ≤ 10000) (ns : List Int) : (packed b ns).length = cells (perC b) ns.length := by
  rw [← packed_eq hb, List.length_map, List.length_range]
theorem packedFrom_cells {l s : Int} (h0 : 0 ≤ s) (h : s ≤ 9999) (ns : List Int) : (packedFrom l s ns).length = pcells (s + 1) ns.length := by
  unfold packedFrom pcells
  by_cases c : s = 0
  · rw [if_pos c, if_pos (by omega)]
    rfl
  · rw [if_neg c, if_neg (by omega), packed_cells (by omega), List.length_map]
/-- the room of the i-th form, if there is one -/
theorem room1 {ns : List Int} {F : Form} (e : mk 1 ns = some F) : room F = 3 ∧ ¬ lmin ns < lmax ns := by
  have e : mkOne ns = some F := e
  unfold mkOne at e
  split at e
  · cases e
  · rename_i c
    cases e
    exact ⟨rfl, c⟩
theorem room2 {ns : List Int} {F : Form} (G : ns.length ≤ 32) (e : mk 2 ns = some F) : room F = 2 + (usort ns).length + pcells (usort ns).length ns.length ∧ 2 ≤ (usort ns).length := by
  have e : mkCodes ns = some F := e
  unfold mkCodes at e
  have hu := usort_length ns
  split at e
  · cases e
  · rename_i c
    cases e
    refine ⟨?_, by omega⟩
    show 2 + (usort ns).length + (packed _ _).length = _
    rw [packed_cells (by omega), List.length_map]
    unfold pcells
    rw [if_neg (by omega)]
theorem room3 {ns : List Int} {F : Form} (e : mk 3 ns = some F) : room F = 4 + pcells (lmax ns - lmin ns + 1) ns.length ∧ 1 ≤ lmax ns - lmin ns ∧ lmax ns - lmin ns ≤ 9999 := by
  have e : mkNear ns = some F := e
  unfold mkNear at e
  split at e
  · cases e
  · rename_i c
    cases e
    refine ⟨?_, by omega, by omega⟩
    show 4 + (packedFrom _ _ _).length = _
    rw [packedFrom_cells (by omega) (by omega)]
theorem room4 {ns : List Int} {F : Form} (e : mk 4 ns = some F) : room F = 5 + pcells (lmax (steps ns) - lmin (steps ns) + 1) (ns.length - 1) ∧ 2 ≤ ns.length ∧ lmax (steps ns) - lmin (steps ns) ≤ 9999 := by
  have e : mkSteps ns = some F := e
  unfold mkSteps at e
  split at e
  · cases e
  · rename_i c0
    split at e
    · cases e
    · rename_i c
      cases e
      have := span_nn (steps_ne c0)
      refine ⟨?_, by omega, by omega⟩
      show 5 + (packedFrom _ _ _).length = _
      rw [packedFrom_cells (by omega) (by omega), steps_length]
/-- one unlike value just where all are alike -/
theorem unl_one {ns : List Int} (h : ns ≠ []) : (usort ns).length = 1 ↔ ¬ lmin ns < lmax ns :=
  one_iff h ((usort_rises ns).imp fun {a b} hab => by omega) fun k => mem_usort k ns
theorem unl_pos {ns : List Int} (h : ns ≠ []) : 1 ≤ (usort ns).length := List.length_pos_iff.mpr (usort_ne h)
/-- the step span as the program has it: of a single value less than nothing -/
def stepSpan (ns : List Int) : Int := if ns.length < 2 then -39996 else lmax (steps ns) - lmin (steps ns)
theorem fcells_lr {ns : List Int} (h : ns ≠ []) (hl : ns.length ≤ 32) : fcells ns.length (usort ns).length (lmax ns - lmin ns) (stepSpan ns) = lr ns 5 := by
  have hp := List.length_pos_iff.mpr h
  have hu := unl_pos h
  have hul := usort_length ns
  have l0 : lr ns 5 ≤ 1 + ns.length := lr_le (j := 0) (by omega) (rfl : mk 0 ns = some (.plain ns))
  obtain ⟨i, F, hi, e, er⟩ := lr_at (vs := ns)
  by_cases c : (usort ns).length = 1
  · have ca := (unl_one h).mp c
    have e1 : mk 1 ns = some (.one ns.length (ns.headD 0)) := by
      show mkOne ns = _
      unfold mkOne
      rw [if_neg ca]
    have l1 : lr ns 5 ≤ 3 := lr_le (j := 1) (by omega) e1
    have ef : fcells ns.length (usort ns).length (lmax ns - lmin ns) (stepSpan ns) = min (1 + ns.length) 3 := by
      unfold fcells
      rw [if_pos c]
    rw [ef]
    rw [← er] at l0 l1 ⊢
    match i, hi with
    | 0, _ =>
      obtain rfl : Form.plain ns = F := Option.some.inj e
      have : room (.plain ns) = 1 + ns.length := rfl
      omega
    | 1, _ =>
      have := room1 e
      omega
    | 2, _ =>
      have := room2 hl e
      omega
    | 3, _ =>
      have := room3 e
      have ca2 := span_nn h
      omega
    | 4, _ =>
      have := room4 e
      omega
  · have ca : lmin ns < lmax ns := by
      by_cases z : lmin ns < lmax ns
      · exact z
      · exact absurd ((unl_one h).mpr z) c
    have sn := span_nn h
    have n2 : 2 ≤ ns.length := by omega
    have e2 : ∃ F, mk 2 ns = some F := by
      show ∃ F, mkCodes ns = some F
      unfold mkCodes
      rw [if_neg (by omega)]
      exact ⟨_, rfl⟩
    obtain ⟨F2, e2⟩ := e2
    have l2 : lr ns 5 ≤ room F2 := lr_le (j := 2) (by omega) e2
    have r2 := room2 hl e2
    have l3 : lmax ns - lmin ns ≤ 9999 → lr ns 5 ≤ 4 + pcells (lmax ns - lmin ns + 1) ns.length := fun z => by
      have e3 : ∃ F, mk 3 ns = some F := by
        show ∃ F, mkNear ns = some F
        unfold mkNear
        rw [if_neg (by omega)]
        exact ⟨_, rfl⟩
      obtain ⟨F3, e3⟩ := e3
      rw [← (room3 e3).1]
      exact lr_le (j := 3) (by omega) e3
    have es : stepSpan ns = lmax (steps ns) - lmin (steps ns) := by
      unfold stepSpan
      rw [if_neg (by omega)]
    have l4 : stepSpan ns ≤ 9999 → lr ns 5 ≤ 5 + pcells (stepSpan ns + 1) (ns.length - 1) := fun z => by
      rw [es] at z ⊢
      have e4 : ∃ F, mk 4 ns = some F := by
        show ∃ F, mkSteps ns = some F
        unfold mkSteps
        rw [if_neg (by omega), if_neg (by omega)]
        exact ⟨_, rfl⟩
      obtain ⟨F4, e4⟩ := e4
      rw [← (room4 e4).1]
      exact lr_le (j := 4) (by omega) e4
    unfold fcells
    rw [if_neg c]
    show (if stepSpan ns ≤ 9999 then min (if lmax ns - lmin ns ≤ 9999 then min (min (1 + ns.length) (2 + (usort ns).length + pcells (usort ns).length ns.length)) (4 + pcells (lmax ns - lmin ns + 1) ns.length) else min (1 + ns.length) (2 + (usort ns).length + pcells (usort ns).length ns.length)) (5 + pcells (stepSpan ns + 1) (ns.length - 1)) else (if lmax ns - lmin ns ≤ 9999 then min (min (1 + ns.length) (2 + (usort ns).length + pcells (usort ns).length ns.length)) (4 + pcells (lmax ns - lmin ns + 1) ns.length) else min (1 + ns.length) (2 + (usort ns).length + pcells (usort ns).length ns.length))) = lr ns 5
    rw [r2.1] at l2
    rw [← er] at l0 l2 l3 l4 ⊢
    have hF : room F = 1 + ns.length ∨ room F = 2 + (usort ns).length + pcells (usort ns).length ns.length ∨ (lmax ns - lmin ns ≤ 9999 ∧ room F = 4 + pcells (lmax ns - lmin ns + 1) ns.length) ∨ (stepSpan ns ≤ 9999 ∧ room F = 5 + pcells (stepSpan ns + 1) (ns.length - 1)) := by
      match i, hi with
      | 0, _ =>
        obtain rfl : Form.plain ns = F := Option.some.inj e
        exact .inl rfl
      | 1, _ => exact absurd ca (room1 e).2
      | 2, _ => exact .inr (.inl (room2 hl e).1)
      | 3, _ => exact .inr (.inr (.inl ⟨(room3 e).2.2, (room3 e).1⟩))
      | 4, _ => rw [es]; exact .inr (.inr (.inr ⟨(room4 e).2.2, (room4 e).1⟩))
    generalize pcells (usort ns).length ns.length = A at *
    generalize pcells (lmax ns - lmin ns + 1) ns.length = B at *
    generalize pcells (stepSpan ns + 1) (ns.length - 1) = C at *
    generalize room F = R at *
    generalize stepSpan ns = S at *
    generalize lmax ns - lmin ns = T at *
    by_cases c1 : S ≤ 9999
    · by_cases c2 : T ≤ 9999
      · rw [if_pos c1, if_pos c2]
        have := l3 c2
        have := l4 c1
        omega
      · rw [if_pos c1, if_neg c2]
        have := l4 c1
        omega
    · by_cases c2 : T ≤ 9999
      · rw [if_neg c1, if_pos c2]
        have := l3 c2
        omega
      · rw [if_neg c1, if_neg c2]
        omega
/-! ### one value more -/
theorem ins_new (x : Int) : ∀ l : List Int, x ∉ l → (ins x l).length = l.length + 1
  | [], _ => rfl
  | y :: r, h => by
    have h1 : x ≠ y := fun z => h (z ▸ List.mem_cons_self ..)
    have h2 : x ∉ r := fun z => h (List.mem_cons_of_mem _ z)
    show (if x < y then x :: y :: r else if x = y then y :: r else y :: ins x r).length = r.length + 1 + 1
    by_cases c : x < y
    · rw [if_pos c]
      rfl
    · rw [if_neg c, if_neg h1, List.length_cons, ins_new x r h2]
theorem ins_old (x : Int) : ∀ {l : List Int}, l.Pairwise (· < ·) → x ∈ l → ins x l = l
  | [], _, h => absurd h (by simp)
  | y :: r, p, h => by
    obtain ⟨p1, p2⟩ := List.pairwise_cons.mp p
    unfold ins
    rcases List.mem_cons.mp h with rfl | h
    · rw [if_neg (by omega), if_pos rfl]
    · have := p1 x h
      rw [if_neg (by omega), if_neg (by omega), ins_old x p2 h]
theorem usort_snoc (ns : List Int) (x : Int) : usort (ns ++ [x]) = ins x (usort ns) :=
  (usort_eq (ins_rises x (usort_rises ns)) fun k => by
    rw [mem_ins, mem_usort, List.mem_append, List.mem_singleton]
    exact or_comm).symm
theorem usort_more (ns : List Int) (x : Int) : (usort (ns ++ [x])).length = if x ∈ ns then (usort ns).length else (usort ns).length + 1 := by
  rw [usort_snoc]
  by_cases c : x ∈ ns
  · rw [if_pos c, ins_old x (usort_rises ns) ((mem_usort x ns).mpr c)]
  · rw [if_neg c, ins_new x _ (fun z => c ((mem_usort x ns).mp z))]
theorem lmin_snoc {ns : List Int} (h : ns ≠ []) (x : Int) : lmin (ns ++ [x]) = if x < lmin ns then x else lmin ns := by
  obtain ⟨a, b⟩ := lmin_ok h
  refine (lmin_eq ?_ fun y hy => ?_).symm
  · split
    · exact List.mem_append_right _ (List.mem_singleton.mpr rfl)
    · exact List.mem_append_left _ a
  · rcases List.mem_append.mp hy with z | z
    · have := b y z
      split <;> omega
    · rw [List.mem_singleton.mp z]
      split <;> omega
theorem lmax_snoc {ns : List Int} (h : ns ≠ []) (x : Int) : lmax (ns ++ [x]) = if x > lmax ns then x else lmax ns := by
  obtain ⟨a, b⟩ := lmax_ok h
  refine (lmax_eq ?_ fun y hy => ?_).symm
  · split
    · exact List.mem_append_right _ (List.mem_singleton.mpr rfl)
    · exact List.mem_append_left _ a
  · rcases List.mem_append.mp hy with z | z
    · have := b y z
      split <;> omega
    · rw [List.mem_singleton.mp z]
      split <;> omega
theorem steps_snoc : ∀ {ns : List Int} {y : Int} (_ : ns.getLast? = some y) (x : Int), steps (ns ++ [x]) = steps ns ++ [x - y]
  | [], _, h, _ => by simp at h
  | [n], y, h, x => by
    obtain rfl : n = y := by simpa using h
    rfl
  | n :: m :: r, y, h, x => by
    rw [List.getLast?_cons_cons] at h
    show (m - n) :: steps (m :: r ++ [x]) = (m - n) :: (steps (m :: r) ++ [x - y])
    rw [steps_snoc (ns := m :: r) h x]
/-! ### a stretch one value longer -/
theorem seg_more {vs : List Int} {i j : Nat} {x : Int} (h : i ≤ j) (hx : vs[j]? = some x) : seg vs i (j + 1) = seg vs i j ++ [x] := by
  unfold seg
  have e : j + 1 - i = (j - i) + 1 := by omega
  rw [e]
  refine take_more' ?_
  rw [List.getElem?_drop]
  have e2 : i + (j - i) = j := by omega
  rw [e2]
  exact hx
where
  take_more' {α : Type} {l : List α} {k : Nat} {x : α} (h : l[k]? = some x) : l.take (k + 1) = l.take k ++ [x] := by
    obtain ⟨hl, e⟩ := List.getElem?_eq_some_iff.mp h
    rw [List.take_succ, h]
    rfl
theorem seg_last {vs : List Int} {i j : Nat} {x : Int} (h : i < j) (hj : j ≤ vs.length) (hx : vs[j - 1]? = some x) : (seg vs i j).getLast? = some x := by
  rw [List.getLast?_eq_getElem?, seg_length hj]
  unfold seg
  rw [List.getElem?_take, if_pos (by omega), List.getElem?_drop]
  have e : i + (j - i - 1) = j - 1 := by omega
  rw [e]
  exact hx
theorem seg_nil {vs : List Int} {i : Nat} : seg vs i i = [] := by
  unfold seg
  rw [Nat.sub_self, List.take_zero]
/-- the least step as the program has it -/
def lowS (g : List Int) : Int := if g.length < 2 then 19998 else lmin (steps g)
def highS (g : List Int) : Int := if g.length < 2 then -19998 else lmax (steps g)
theorem stepSpan_eq (g : List Int) : stepSpan g = highS g - lowS g := by
  unfold stepSpan highS lowS
  by_cases c : g.length < 2
  · rw [if_pos c, if_pos c, if_pos c]
    rfl
  · rw [if_neg c, if_neg c, if_neg c]
theorem lowS_snoc {g : List Int} {y x : Int} (h : g.getLast? = some y) (hb : x - y ≤ 19998) : lowS (g ++ [x]) = if x - y < lowS g then x - y else lowS g := by
  have hne : g ≠ [] := fun z => by
    rw [z] at h
    simp at h
  have hp := List.length_pos_iff.mpr hne
  have e1 : lowS (g ++ [x]) = lmin (steps g ++ [x - y]) := by
    unfold lowS
    rw [if_neg (by rw [List.length_append, List.length_singleton]; omega), steps_snoc h]
  rw [e1]
  by_cases c : g.length < 2
  · have e2 : steps g = [] := List.length_eq_zero_iff.mp (by rw [steps_length]; omega)
    have e3 : lowS g = 19998 := if_pos c
    rw [e2, e3]
    show x - y = _
    split <;> omega
  · have e3 : lowS g = lmin (steps g) := if_neg c
    rw [e3, lmin_snoc (steps_ne c)]
theorem highS_snoc {g : List Int} {y x : Int} (h : g.getLast? = some y) (hb : -19998 ≤ x - y) : highS (g ++ [x]) = if x - y > highS g then x - y else highS g := by
  have hne : g ≠ [] := fun z => by
    rw [z] at h
    simp at h
  have hp := List.length_pos_iff.mpr hne
  have e1 : highS (g ++ [x]) = lmax (steps g ++ [x - y]) := by
    unfold highS
    rw [if_neg (by rw [List.length_append, List.length_singleton]; omega), steps_snoc h]
  rw [e1]
  by_cases c : g.length < 2
  · have e2 : steps g = [] := List.length_eq_zero_iff.mp (by rw [steps_length]; omega)
    have e3 : highS g = -19998 := if_pos c
    rw [e2, e3]
    show x - y = _
    split <;> omega
  · have e3 : highS g = lmax (steps g) := if_neg c
    rw [e3, lmax_snoc (steps_ne c)]
/-- the least as the program has it: ahead of the first turn the first value -/
def leastS (x0 : Int) (g : List Int) : Int := if g = [] then x0 else lmin g
def greatS (x0 : Int) (g : List Int) : Int := if g = [] then x0 else lmax g
theorem leastS_snoc {x0 x : Int} {g : List Int} (h : g = [] → x = x0) : leastS x0 (g ++ [x]) = if x < leastS x0 g then x else leastS x0 g := by
  have e1 : leastS x0 (g ++ [x]) = lmin (g ++ [x]) := if_neg (by simp)
  rw [e1]
  by_cases c : g = []
  · have e2 : leastS x0 g = x0 := if_pos c
    rw [e2, h c, c]
    show x0 = _
    split <;> rfl
  · have e2 : leastS x0 g = lmin g := if_neg c
    rw [e2, lmin_snoc c]
theorem greatS_snoc {x0 x : Int} {g : List Int} (h : g = [] → x = x0) : greatS x0 (g ++ [x]) = if x > greatS x0 g then x else greatS x0 g := by
  have e1 : greatS x0 (g ++ [x]) = lmax (g ++ [x]) := if_neg (by simp)
  rw [e1]
  by_cases c : g = []
  · have e2 : greatS x0 g = x0 := if_pos c
    rw [e2, h c, c]
    show x0 = _
    split <;> rfl
  · have e2 : greatS x0 g = lmax g := if_neg c
    rw [e2, lmax_snoc c]
end K3

set_option Elab.async false
set_option linter.all false
set_option maxRecDepth 100000
set_option maxHeartbeats 4000000
namespace K3
open PySem PySem.Spec PyProof.Rows L2
/-- ints, truths, texts, None; tuples and lists of such: the same data -/
inductive Alk (K : PySem.W.Frag) (H : Hp) : Nat → V → V → Prop where
  | non {n : Nat} : Alk K H n .non .non
  | int {n : Nat} (i : Int) : Alk K H n (.int i) (.int i)
  | bl {n : Nat} (b : Bool) : Alk K H n (.bl b) (.bl b)
  | str {n : Nat} (z : Str) : Alk K H n (.str z) (.str z)
  | tup {n : Nat} {a b : Addr} {xs ys : List V} (ha : SqT K H a xs) (hb : SqT K H b ys) (hl : xs.length ≤ 10000) (h : xs.length = ys.length) (e : ∀ (i : Nat) (x y : V), xs[i]? = some x → ys[i]? = some y → Alk K H n x y) : Alk K H (n + 1) (.ref a) (.ref b)
  | lst {n : Nat} {a b : Addr} {xs ys : List V} (ha : SqL K H a xs) (hb : SqL K H b ys) (hl : xs.length ≤ 10000) (h : xs.length = ys.length) (e : ∀ (i : Nat) (x y : V), xs[i]? = some x → ys[i]? = some y → Alk K H n x y) : Alk K H (n + 1) (.ref a) (.ref b)
theorem tyX_seqL {K : PySem.W.Frag} {H : Hp} {t : Addr} {xs : List V} (h : SqL K H t xs) : TyX K H (.ref t) (.type "list") := by
  rcases h with (h | ⟨o, h⟩) | h
  · exact .base (.lst h)
  · exact .base (.frz h)
  · obtain ⟨o, _, _, e, c, _⟩ := h
    exact .kList e c
/-- the builtins that it names -/
structure Txt4 (mg : Str → Option Value) : Prop where
  b_bool : mg "bool" = none
  b_str : mg "str" = none
  b_sum : mg "sum" = none
section
variable {P : Program} {w : World} {K : PySem.W.Frag} {mg : Str → Option Value} {base : Heap}
abbrev s__law_alike : Stmt := top 47
abbrev N__law_alike : List Str := ["_law_found", "_law_due_here", "_law_k"]
abbrev P__law_alike : List Str := ["_law_found", "_law_due_here"]
theorem sc__law_alike : FnScope N__law_alike P__law_alike (defScope s__law_alike) := ⟨rfl, rfl, rfl, by decide +kernel, rfl, by decide +kernel, by decide +kernel⟩
def spAlike (K : PySem.W.Frag) (n : Nat) : Sp := fun vs H Q _ => ∃ x y, vs = [x, y] ∧ ∃ m, m < n ∧ Alk K H m x y ∧ Q (.bl true) H
theorem ok_alikeS {n : Nat} (T : Txt mg) (T4 : Txt4 mg) (D : Df K mg "_law_alike" s__law_alike P__law_alike) (G_alike : Fn P w K mg base CX0 (1 + n) "_law_alike" P__law_alike (spAlike K n)) : Fn P w K mg base CX0 (1 + n + 1) "_law_alike" P__law_alike (spAlike K (n + 1)) := by
  refine D.ok sc__law_alike (fun vs H Q E h => ?_) (fun f cdv A outer s H vs Q E hr h => ?_)
  · obtain ⟨x, y, rfl, _⟩ := h
    rfl
  · obtain ⟨x, y, rfl, m, hm, hA, k⟩ := h
    have nd := sc__law_alike.nd
    refine ⟨_, (pss_cons (ps_if (pt_cmpR op_isN (pv 1) pe_non (nomark _))
  (pss_one (ps_ret (pe_cmpR op_isN (pv 0) pe_non (nomark _))))
  pss_nil)
  (pss_cons (ps_if (pt_val (pe_callB call_isi (by rfl) T.b_isinstance (by decide +kernel) (pa_cons (pv 1) (pa_cons (pe_bltn (v := .ty "bool") (by rfl) T4.b_bool (by decide +kernel) rfl) pa_nil))))
  (pss_one (ps_ret (pe_and (pe_callB call_isi (by rfl) T.b_isinstance (by decide +kernel) (pa_cons (pv 0) (pa_cons (pe_bltn (v := .ty "bool") (by rfl) T4.b_bool (by decide +kernel) rfl) pa_nil))) (pe_one (pe_cmpR op_eq (pv 0) (pv 1) (nomark _))))))
  pss_nil)
  (pss_cons (ps_if (pt_val (pe_callB call_isi (by rfl) T.b_isinstance (by decide +kernel) (pa_cons (pv 1) (pa_cons (pe_bltn (v := .ty "int") (by rfl) T.b_int (by decide +kernel) rfl) pa_nil))))
  (pss_one (ps_ret (pe_and (pe_callB call_isi (by rfl) T.b_isinstance (by decide +kernel) (pa_cons (pv 0) (pa_cons (pe_bltn (v := .ty "int") (by rfl) T.b_int (by decide +kernel) rfl) pa_nil))) (pe_and (pe_not (pe_callB call_isi (by rfl) T.b_isinstance (by decide +kernel) (pa_cons (pv 0) (pa_cons (pe_bltn (v := .ty "bool") (by rfl) T4.b_bool (by decide +kernel) rfl) pa_nil)))) (pe_one (pe_cmpR op_eq (pv 0) (pv 1) (nomark _)))))))
  pss_nil)
  (pss_cons (ps_if (pt_val (pe_callB call_isi (by rfl) T.b_isinstance (by decide +kernel) (pa_cons (pv 1) (pa_cons (pe_bltn (v := .ty "str") (by rfl) T4.b_str (by decide +kernel) rfl) pa_nil))))
  (pss_one (ps_ret (pe_and (pe_callB call_isi (by rfl) T.b_isinstance (by decide +kernel) (pa_cons (pv 0) (pa_cons (pe_bltn (v := .ty "str") (by rfl) T4.b_str (by decide +kernel) rfl) pa_nil))) (pe_one (pe_cmpR op_eq (pv 0) (pv 1) (nomark _))))))
  pss_nil)
  (pss_cons (ps_if (PW.pt (pw_or (pt_cmpR op_ne (pe_callB call_isi (by rfl) T.b_isinstance (by decide +kernel) (pa_cons (pv 1) (pa_cons (pe_bltn (v := .ty "tuple") (by rfl) T.b_tuple (by decide +kernel) rfl) pa_nil))) (pe_callB call_isi (by rfl) T.b_isinstance (by decide +kernel) (pa_cons (pv 0) (pa_cons (pe_bltn (v := .ty "tuple") (by rfl) T.b_tuple (by decide +kernel) rfl) pa_nil))) (nomark _)) (pw_or1 (pt_cmpR op_ne (pe_callB call_isi (by rfl) T.b_isinstance (by decide +kernel) (pa_cons (pv 1) (pa_cons (pe_bltn (v := .ty "list") (by rfl) T.b_list (by decide +kernel) rfl) pa_nil))) (pe_callB call_isi (by rfl) T.b_isinstance (by decide +kernel) (pa_cons (pv 0) (pa_cons (pe_bltn (v := .ty "list") (by rfl) T.b_list (by decide +kernel) rfl) pa_nil))) (nomark _)))))
  (pss_one (ps_ret pe_bl))
  pss_nil)
  (pss_cons (ps_if (pt_cmpR op_ne (pe_callB call_len_seq (by rfl) T.b_len (by decide +kernel) (pa_cons (pv 0) pa_nil)) (pe_callB call_len_seq (by rfl) T.b_len (by decide +kernel) (pa_cons (pv 1) pa_nil)) (nomark _))
  (pss_one (ps_ret pe_bl))
  pss_nil)
  (pss_cons (ps_for PassesOwn.never rfl (pi_range1 (by rfl) T.b_range (pa_cons (pe_callB call_len_seq (by rfl) T.b_len (by decide +kernel) (pa_cons (pv 1) pa_nil)) pa_nil)) (pg_name (i := 2) nd rfl (by first | exact Or.inl rfl | exact Or.inr rfl))
  (pss_one (ps_if (pt_not (pt_val (pe_c G_alike hr pass0 (pa_cons (pe_ix ix_seq (pv 0) (pv 2) (fun _ _ => rfl)) (pa_cons (pe_ix ix_seq (pv 1) (pv 2) (fun _ _ => rfl)) pa_nil)))))
  (pss_one (ps_ret pe_bl))
  pss_nil)))
  (pss_one (ps_ret pe_bl))))))))), ?_⟩
    cases hA with
    | non =>
      refine ⟨_, rfl, rfl, _, rfl, ?_⟩
      refine ite2 (fun _ => ?_) (fun c => absurd rfl c)
      exact ⟨_, rfl, rfl, k⟩
    | int i =>
      refine ⟨_, rfl, rfl, _, rfl, ?_⟩
      refine ite2 (fun c => nomatch (of_decide_eq_true c)) (fun _ => ?_)
      refine ⟨_, rfl, _, .ty "bool", .type "int", .type "bool", false, rfl, .ty _, .base (.int _), kit_ty (by decide +kernel), _, rfl, ite2 (fun c => Bool.noConfusion c) (fun _ => ?_)⟩
      refine ⟨_, rfl, _, .ty "int", .type "int", .type "int", true, rfl, .ty _, .base (.int _), kit_ty (by decide +kernel), _, rfl, ite2 (fun _ => ?_) (fun c => absurd rfl c)⟩
      refine ⟨_, rfl, _, .ty "int", .type "int", .type "int", true, rfl, .ty _, .base (.int _), kit_ty (by decide +kernel), _, rfl, ite2 (fun _ => ?_) (fun c => absurd rfl c)⟩
      refine ⟨_, rfl, _, .ty "bool", .type "int", .type "bool", false, rfl, .ty _, .base (.int _), kit_ty (by decide +kernel), _, rfl, _, rfl, ite2 (fun _ => ?_) (fun c => absurd rfl c)⟩
      refine ⟨_, rfl, _, rfl, rfl, ?_⟩
      have e : decide (V.int i = V.int i) = true := decide_eq_true rfl
      rw [e]
      exact k
    | bl b =>
      refine ⟨_, rfl, rfl, _, rfl, ?_⟩
      refine ite2 (fun c => nomatch (of_decide_eq_true c)) (fun _ => ?_)
      refine ⟨_, rfl, _, .ty "bool", .type "bool", .type "bool", true, rfl, .ty _, .base (.bl _), kit_ty (by decide +kernel), _, rfl, ite2 (fun _ => ?_) (fun c => absurd rfl c)⟩
      refine ⟨_, rfl, _, .ty "bool", .type "bool", .type "bool", true, rfl, .ty _, .base (.bl _), kit_ty (by decide +kernel), _, rfl, ite2 (fun _ => ?_) (fun c => absurd rfl c)⟩
      refine ⟨_, rfl, _, rfl, rfl, ?_⟩
      have e : decide (V.bl b = V.bl b) = true := decide_eq_true rfl
      rw [e]
      exact k
    | str z =>
      refine ⟨_, rfl, rfl, _, rfl, ?_⟩
      refine ite2 (fun c => nomatch (of_decide_eq_true c)) (fun _ => ?_)
      refine ⟨_, rfl, _, .ty "bool", .type "str", .type "bool", false, rfl, .ty _, .base (.str _), kit_ty (by decide +kernel), _, rfl, ite2 (fun c => Bool.noConfusion c) (fun _ => ?_)⟩
      refine ⟨_, rfl, _, .ty "int", .type "str", .type "int", false, rfl, .ty _, .base (.str _), kit_ty (by decide +kernel), _, rfl, ite2 (fun c => Bool.noConfusion c) (fun _ => ?_)⟩
      refine ⟨_, rfl, _, .ty "str", .type "str", .type "str", true, rfl, .ty _, .base (.str _), kit_ty (by decide +kernel), _, rfl, ite2 (fun _ => ?_) (fun c => absurd rfl c)⟩
      refine ⟨_, rfl, _, .ty "str", .type "str", .type "str", true, rfl, .ty _, .base (.str _), kit_ty (by decide +kernel), _, rfl, ite2 (fun _ => ?_) (fun c => absurd rfl c)⟩
      refine ⟨_, rfl, _, rfl, rfl, ?_⟩
      have e : decide (V.str z = V.str z) = true := decide_eq_true rfl
      rw [e]
      exact k
    | @tup m a b xs ys ha hb hl hlen e =>
      refine ⟨_, rfl, rfl, _, rfl, ?_⟩
      refine ite2 (fun c => nomatch (of_decide_eq_true c)) (fun _ => ?_)
      refine ⟨_, rfl, _, .ty "bool", .type "tuple", .type "bool", false, rfl, .ty _, tyX_seqT hb, kit_ty (by decide +kernel), _, rfl, ite2 (fun c => Bool.noConfusion c) (fun _ => ?_)⟩
      refine ⟨_, rfl, _, .ty "int", .type "tuple", .type "int", false, rfl, .ty _, tyX_seqT hb, kit_ty (by decide +kernel), _, rfl, ite2 (fun c => Bool.noConfusion c) (fun _ => ?_)⟩
      refine ⟨_, rfl, _, .ty "str", .type "tuple", .type "str", false, rfl, .ty _, tyX_seqT hb, kit_ty (by decide +kernel), _, rfl, ite2 (fun c => Bool.noConfusion c) (fun _ => ?_)⟩
      refine ⟨_, rfl, _, .ty "tuple", .type "tuple", .type "tuple", true, rfl, .ty _, tyX_seqT hb, kit_ty (by decide +kernel), ?_⟩
      refine ⟨_, rfl, _, .ty "tuple", .type "tuple", .type "tuple", true, rfl, .ty _, tyX_seqT ha, kit_ty (by decide +kernel), rfl, _, rfl, ?_⟩
      refine ite2 (fun c => Bool.noConfusion (show false = true from c)) (fun _ => ?_)
      refine ⟨_, rfl, _, .ty "list", .type "tuple", .type "list", false, rfl, .ty _, tyX_seqT hb, kit_ty (by decide +kernel), ?_⟩
      refine ⟨_, rfl, _, .ty "list", .type "tuple", .type "list", false, rfl, .ty _, tyX_seqT ha, kit_ty (by decide +kernel), rfl, _, rfl, ?_⟩
      refine ite2 (fun c => Bool.noConfusion (show false = true from c)) (fun _ => ?_)
      refine ⟨_, rfl, a, xs, rfl, .inr ha, _, rfl, b, ys, rfl, .inr hb, rfl, _, rfl, ?_⟩
      rw [hlen, decide_eq_true (rfl : V.int (ys.length : Nat) = V.int (ys.length : Nat))]
      refine ite2 (fun c => Bool.noConfusion (show false = true from c)) (fun _ => ?_)
      refine ⟨_, rfl, b, ys, rfl, .inr hb, (ys.length : Nat), rfl, by omega, by omega, ?_⟩
      have en : ((ys.length : Nat) : Int).toNat = ys.length := Int.toNat_natCast _
      rw [en]
      refine for_it (walk_range (lo := 0)) (fun i σ H' => ∃ v, σ = [some (.ref a), some (.ref b), v] ∧ H' = H) ⟨none, rfl, rfl⟩ (fun _ _ _ _ _ => True.intro) ?_ ?_
      · rintro i x σ H1 H1' hi ⟨v, rfl, rfl⟩ ⟨rfl, rfl⟩
        have hx : xs[i]? = some (xs[i]'(by omega)) := List.getElem?_eq_getElem (by omega)
        have hy : ys[i]? = some ys[i] := List.getElem?_eq_getElem hi
        refine ⟨_, rfl, _, rfl, (.inr (.inl ⟨a, xs, _, _, rfl, rfl, ha, at_of (j := i) (by omega) hx, _, rfl, _, rfl, (.inr (.inl ⟨b, ys, _, _, rfl, rfl, hb, at_of (j := i) (by omega) hy, _, _, rfl, m, by omega, e i _ _ hx hy, ?_⟩))⟩))⟩
        refine ⟨_, rfl, ite2 (fun c => Bool.noConfusion (show false = true from c)) (fun _ => ⟨_, rfl, rfl⟩)⟩
      · rintro σ H1 ⟨v, rfl, rfl⟩
        exact k
    | @lst m a b xs ys ha hb hl hlen e =>
      refine ⟨_, rfl, rfl, _, rfl, ?_⟩
      refine ite2 (fun c => nomatch (of_decide_eq_true c)) (fun _ => ?_)
      refine ⟨_, rfl, _, .ty "bool", .type "list", .type "bool", false, rfl, .ty _, tyX_seqL hb, kit_ty (by decide +kernel), _, rfl, ite2 (fun c => Bool.noConfusion c) (fun _ => ?_)⟩
      refine ⟨_, rfl, _, .ty "int", .type "list", .type "int", false, rfl, .ty _, tyX_seqL hb, kit_ty (by decide +kernel), _, rfl, ite2 (fun c => Bool.noConfusion c) (fun _ => ?_)⟩
      refine ⟨_, rfl, _, .ty "str", .type "list", .type "str", false, rfl, .ty _, tyX_seqL hb, kit_ty (by decide +kernel), _, rfl, ite2 (fun c => Bool.noConfusion c) (fun _ => ?_)⟩
      refine ⟨_, rfl, _, .ty "tuple", .type "list", .type "tuple", false, rfl, .ty _, tyX_seqL hb, kit_ty (by decide +kernel), ?_⟩
      refine ⟨_, rfl, _, .ty "tuple", .type "list", .type "tuple", false, rfl, .ty _, tyX_seqL ha, kit_ty (by decide +kernel), rfl, _, rfl, ?_⟩
      refine ite2 (fun c => Bool.noConfusion (show false = true from c)) (fun _ => ?_)
      refine ⟨_, rfl, _, .ty "list", .type "list", .type "list", true, rfl, .ty _, tyX_seqL hb, kit_ty (by decide +kernel), ?_⟩
      refine ⟨_, rfl, _, .ty "list", .type "list", .type "list", true, rfl, .ty _, tyX_seqL ha, kit_ty (by decide +kernel), rfl, _, rfl, ?_⟩
      refine ite2 (fun c => Bool.noConfusion (show false = true from c)) (fun _ => ?_)
      refine ⟨_, rfl, a, xs, rfl, .inl ha, _, rfl, b, ys, rfl, .inl hb, rfl, _, rfl, ?_⟩
      rw [hlen, decide_eq_true (rfl : V.int (ys.length : Nat) = V.int (ys.length : Nat))]
      refine ite2 (fun c => Bool.noConfusion (show false = true from c)) (fun _ => ?_)
      refine ⟨_, rfl, b, ys, rfl, .inl hb, (ys.length : Nat), rfl, by omega, by omega, ?_⟩
      have en : ((ys.length : Nat) : Int).toNat = ys.length := Int.toNat_natCast _
      rw [en]
      refine for_it (walk_range (lo := 0)) (fun i σ H' => ∃ v, σ = [some (.ref a), some (.ref b), v] ∧ H' = H) ⟨none, rfl, rfl⟩ (fun _ _ _ _ _ => True.intro) ?_ ?_
      · rintro i x σ H1 H1' hi ⟨v, rfl, rfl⟩ ⟨rfl, rfl⟩
        have hx : xs[i]? = some (xs[i]'(by omega)) := List.getElem?_eq_getElem (by omega)
        have hy : ys[i]? = some ys[i] := List.getElem?_eq_getElem hi
        refine ⟨_, rfl, _, rfl, (.inl ⟨a, xs, _, _, rfl, rfl, ha, at_of (j := i) (by omega) hx, _, rfl, _, rfl, (.inl ⟨b, ys, _, _, rfl, rfl, hb, at_of (j := i) (by omega) hy, _, _, rfl, m, by omega, e i _ _ hx hy, ?_⟩)⟩)⟩
        refine ⟨_, rfl, ite2 (fun c => Bool.noConfusion (show false = true from c)) (fun _ => ⟨_, rfl, rfl⟩)⟩
      · rintro σ H1 ⟨v, rfl, rfl⟩
        exact k
theorem ok_alike0 (D : Df K mg "_law_alike" s__law_alike P__law_alike) : Fn P w K mg base CX0 1 "_law_alike" P__law_alike (spAlike K 0) := by
  obtain ⟨f, fd, F, hm, hb⟩ := D.ex
  refine ⟨f, fd, ⟨fun vs H Q E h => ?_, fun A outer s H args us vs Q E _ _ _ _ h => ?_⟩, hm, F.kp, hb⟩
  · obtain ⟨x, y, _, m, h, _⟩ := h
    exact absurd h (Nat.not_lt_zero _)
  · obtain ⟨x, y, _, m, h, _⟩ := h
    exact absurd h (Nat.not_lt_zero _)
theorem ok_alike (T : Txt mg) (T4 : Txt4 mg) (D : Df K mg "_law_alike" s__law_alike P__law_alike) : ∀ n, Fn P w K mg base CX0 (1 + n) "_law_alike" P__law_alike (spAlike K n)
  | 0 => ok_alike0 D
  | n + 1 => ok_alikeS T T4 D (ok_alike T T4 D n)
end
end K3

set_option Elab.async false
set_option linter.all false
set_option maxRecDepth 100000
set_option maxHeartbeats 4000000
namespace K3
open PySem PySem.Spec PyProof.Rows L2
section
variable {P : Program} {w : World} {K : PySem.W.Frag} {mg : Str → Option Value} {base : Heap}
abbrev s__law_per : Stmt := top 51
abbrev N__law_per : List Str := ["_law_base", "_law_many", "_law_worth"]
abbrev P__law_per : List Str := ["_law_base"]
theorem sc__law_per : FnScope N__law_per P__law_per (defScope s__law_per) := ⟨rfl, rfl, rfl, by decide +kernel, rfl, by decide +kernel, by decide +kernel⟩
def worth : L2.St → Nat
  | [_, _, some (.int r)] => (10001 - r).toNat
  | _ => 0
theorem ok_lper (T : Txt mg) (D : Df K mg "_law_per" s__law_per P__law_per) : Fn P w K mg base CX0 1 "_law_per" P__law_per spPer := by
  refine D.ok sc__law_per (fun vs H Q E h => ?_) (fun f cdv A outer s H vs Q E hr h => ?_)
  · obtain ⟨b, rfl, _⟩ := h
    rfl
  · obtain ⟨b, rfl, h2, h1, k⟩ := h
    have nd := sc__law_per.nd
    refine ⟨_, (pss_cons (ps_set (i := 1) nd rfl (by first | exact Or.inl rfl | exact Or.inr rfl) pe_int)
  (pss_cons (ps_set (i := 2) nd rfl (by first | exact Or.inl rfl | exact Or.inr rfl) pe_int)
  (pss_cons (ps_while PassesOwn.never (pt_cmpR op_le (pe_op op_mul (pv 2) (pv 0)) pe_int (nomark _))
  (pss_cons (ps_set (i := 2) nd rfl (by first | exact Or.inl rfl | exact Or.inr rfl) (pe_op op_mul (pv 2) (pv 0)))
  (pss_one (ps_set (i := 1) nd rfl (by first | exact Or.inl rfl | exact Or.inr rfl) (pe_op op_add (pv 1) pe_int)))))
  (pss_one (ps_ret (pv 1)))))), ?_⟩
    refine while_by (fun σ H' => ∃ (m : Nat) (r : Int) (f : Nat), σ = [some (.int b), some (.int m), some (.int r)] ∧ PerAt b m (r * b) f ∧ 0 < r ∧ H' = H) (fun σ _ => worth σ) ⟨0, 1, 14, rfl, by rw [Int.one_mul]; exact .start h2, by decide, rfl⟩ ?_ (fun σ H Q Q' im h => ?_)
    · rintro σ H' ⟨m, r, f, rfl, A, r0, rfl⟩
      refine ⟨_, rfl, _, rfl, _, _, rfl, rfl, .inr (by constructor <;> omega), _, _, rfl, rfl, _, rfl, ?_⟩
      refine ite2 (fun c => ?_) (fun c => ?_)
      · have c' : r * b ≤ 10000 := of_decide_eq_true c
        obtain ⟨f', A'⟩ := A.turn h2 c'
        have p3 : r * 2 ≤ r * b := Int.mul_le_mul_of_nonneg_left h2 (by omega)
        refine ⟨_, rfl, _, rfl, _, _, rfl, rfl, .inr (by constructor <;> omega), _, rfl, _, _, rfl, rfl, ?_⟩
        refine ⟨⟨m + 1, r * b, f', rfl, A', by omega, rfl⟩, ?_⟩
        show (10001 - r * b).toNat < (10001 - r).toNat
        omega
      · have c' : ¬ r * b ≤ 10000 := fun z => c (decide_eq_true z)
        refine ⟨_, rfl, ?_⟩
        rw [A.done c'] at k
        exact k
    · obtain ⟨v, e, v2, e2, i, j, e3, e4, bd, i2, j2, e5, e6, kk, e7, q⟩ := h
      exact ⟨v, e, v2, e2, i, j, e3, e4, bd, i2, j2, e5, e6, kk, e7, im _ _ q⟩
abbrev s__law_packed : Stmt := top 52
abbrev N__law_packed : List Str := ["_law_base", "_law_values_here", "_law_per_here", "_law_found", "_law_begin", "_law_cell", "_law_value"]
abbrev P__law_packed : List Str := ["_law_base", "_law_values_here"]
theorem sc__law_packed : FnScope N__law_packed P__law_packed (defScope s__law_packed) := ⟨rfl, rfl, rfl, by decide +kernel, rfl, by decide +kernel, by decide +kernel⟩
def spLpk (K : PySem.W.Frag) : Sp := fun vs H Q _ => ∃ (b : Int) (a : Addr) (ns : List Int), vs = [.int b, .ref a] ∧ SqL K H a (ns.map V.int) ∧ 2 ≤ b ∧ b ≤ 10000 ∧ ns.length ≤ 1000 ∧
  ∀ (H' : Hp) (p : Addr), Same H H' → H p = none → H' p = some (.tup ((K3.packed b ns).map V.int)) → Q (.ref p) H'
theorem ok_lpacked (T : Txt mg) (D : Df K mg "_law_packed" s__law_packed P__law_packed) (G__law_per : Fn P w K mg base CX0 1 "_law_per" P__law_per spPer) : Fn P w K mg base CX0 2 "_law_packed" P__law_packed (spLpk K) := by
  refine D.ok sc__law_packed (fun vs H Q E h => ?_) (fun f cdv A outer s H vs Q E hr h => ?_)
  · obtain ⟨b, a, ns, rfl, _⟩ := h
    rfl
  · obtain ⟨b, a, ns, rfl, hS, h2, h1, hl, k⟩ := h
    have nd := sc__law_packed.nd
    refine ⟨_, (pss_cons (ps_set (i := 2) nd rfl (by first | exact Or.inl rfl | exact Or.inr rfl) (pe_c G__law_per (hr.mono (by decide)) pass0 (pa_cons (pv 0) pa_nil)))
  (pss_cons (ps_set (i := 3) nd rfl (by first | exact Or.inl rfl | exact Or.inr rfl) (pe_lst pa_nil))
  (pss_cons (ps_for PassesOwn.never rfl (pi_range3 (by rfl) T.b_range (pa_cons pe_int (pa_cons (pe_callB call_len_seq (by rfl) T.b_len (by decide +kernel) (pa_cons (pv 1) pa_nil)) (pa_cons (pv 2) pa_nil)))) (pg_name (i := 4) nd rfl (by first | exact Or.inl rfl | exact Or.inr rfl))
  (pss_cons (ps_set (i := 5) nd rfl (by first | exact Or.inl rfl | exact Or.inr rfl) pe_int)
  (pss_cons (ps_for PassesOwn.never rfl (pi_list (pe_revL (pe_slice sl_list (pv 1) (po_some (pv 4)) (po_some (pe_op op_add (pv 4) (pv 2)))))) (pg_name (i := 6) nd rfl (by first | exact Or.inl rfl | exact Or.inr rfl))
  (pss_one (ps_set (i := 5) nd rfl (by first | exact Or.inl rfl | exact Or.inr rfl) (pe_op op_add (pe_op op_mul (pv 5) (pv 0)) (pv 6)))))
  (pss_one (ps_expr (pe_bm PySem.F.plainAttrs_list PySem.F.slot_list_append PySem.F.type_list_append mt_append (pv 3) (pa_cons (pv 5) pa_nil)))))))
  (pss_one (ps_ret (pe_callTy call_tuple_of (by rfl) T.b_tuple (by decide +kernel) (pa_cons (pv 3) pa_nil))))))), ?_⟩
    have hk := perC_pos h1
    have hkl := perC_le b
    refine ⟨_, rfl, b, rfl, h2, h1, ?_⟩
    refine ⟨(by show 0 ≤ sizeLine; decide), fun p np => ?_⟩
    have sp := Same.upd (o := .lst []) np
    refine ⟨_, rfl, a, _, rfl, .inl (sp.seq hS), _, rfl, _, _, _, cells (perC b) ns.length, rfl, ?_, ?_⟩
    · rw [List.length_map]
      exact rgC_up hk (by omega) (by omega)
    refine for_it walk_rangeC (fun i σ H' => ∃ v4 v5 v6, σ = [some (.int b), some (.ref a), some (.int (perC b : Nat)), some (.ref p), v4, v5, v6] ∧ Same H H' ∧ H' p = some (.lst (((List.range i).map (fun i => val b ((ns.drop (i * perC b)).take (perC b)))).map V.int))) ⟨none, none, none, rfl, sp, upd_same⟩ (fun _ _ _ _ _ => True.intro) ?_ ?_
    · rintro i x σ H2 H3 hi ⟨v4, v5, v6, rfl, s2, hD⟩ ⟨rfl, rfl⟩
      have hc := (cells_lt hk).mp hi
      have e0 : (0 : Int) + (i : Int) * (perC b : Int) = ((i * perC b : Nat) : Int) := by rw [Int.natCast_mul]; omega
      refine ⟨_, rfl, _, rfl, _, rfl, _, rfl, _, rfl, _, _, rfl, rfl, _, rfl, a, _, rfl, s2.seq hS, fun q nq => ?_⟩
      rw [e0, cutV_part, ← List.map_drop, ← List.map_take]
      generalize hsg : (ns.drop (i * perC b)).take (perC b) = seg
      refine ⟨q, seg.map V.int, rfl, SqL.of upd_same, fun q2 nq2 => ?_⟩
      have s3 := ((Same.upd (o := .lst (seg.map V.int)) nq).upd' (o := .lst (seg.map V.int).reverse) nq2)
      refine ⟨q2, rfl, ⟨_, SqL.of upd_same⟩, for_it (walk_list (xs := (seg.map V.int).reverse)) (fun j σ H' => ∃ v6, σ = [some (.int b), some (.ref a), some (.int (perC b : Nat)), some (.ref p), some (.int (0 + (i : Int) * (perC b : Int)))  , some (.int (val b (seg.drop (seg.length - j)))), v6] ∧ H' = upd (upd H3 q (.lst (seg.map V.int))) q2 (.lst (seg.map V.int).reverse)) ⟨v6, by rw [Nat.sub_zero, List.drop_length]; rfl, rfl⟩ (fun _ _ _ _ ⟨_, _, e⟩ => by rw [e]; exact SqL.of upd_same) ?_ ?_⟩
      · rintro j x σ H4 H4' hj ⟨v6, rfl, rfl⟩ ⟨rfl, e⟩
        rw [List.length_reverse, List.length_map] at hj
        rw [← List.map_reverse] at e
        obtain ⟨z, hz, rfl⟩ := map_at e
        rw [List.getElem?_reverse hj] at hz
        refine ⟨_, rfl, _, rfl, _, _, rfl, rfl, .inr (by constructor <;> omega), _, rfl, _, _, rfl, rfl, ?_⟩
        exact ⟨_, by rw [val_step b hj hz]; rfl, rfl⟩
      · rintro σ H4 ⟨v6, rfl, rfl⟩
        rw [List.length_reverse, List.length_map, Nat.sub_self]
        refine ⟨_, rfl, .inl ⟨rfl, _, SqL.of (s3 _ _ hD)⟩, _, rfl, _, _, _, rfl, rfl, s3 _ _ hD, ?_, ?_⟩
        · rw [List.length_map, List.length_map, List.length_range, sizeLine_eq]
          have := cells_le (n := ns.length) hk
          omega
        · refine ⟨_, _, _, rfl, Same.put (s2.trans s3) np, ?_⟩
          rw [upd_same, List.range_succ, List.map_append, List.map_append, ← hsg]
          rfl
    · rintro σ H2 ⟨v4, v5, v6, rfl, s2, hD⟩
      refine ⟨_, rfl, p, _, rfl, .inl ⟨SqL.of hD, fun l nl => ?_⟩⟩
      rw [packed_eq h1]
      exact k _ _ (s2.upd' nl) (s2.free nl) upd_same
end
end K3

set_option Elab.async false
set_option linter.all false
set_option maxRecDepth 100000
set_option maxHeartbeats 4000000
namespace K3
open PySem PySem.Spec PyProof.Rows L2
section
variable {P : Program} {w : World} {K : PySem.W.Frag} {mg : Str → Option Value} {base : Heap}
abbrev s__law_above : Stmt := top 53
abbrev N__law_above : List Str := ["_law_values_here", "_law_low", "_law_span", "_law_value"]
abbrev P__law_above : List Str := ["_law_values_here"]
theorem sc__law_above : FnScope N__law_above P__law_above (defScope s__law_above) := ⟨rfl, rfl, rfl, by decide +kernel, rfl, by decide +kernel, by decide +kernel⟩
def spAbv (K : PySem.W.Frag) : Sp := fun vs H Q _ => ∃ (a : Addr) (ns : List Int), vs = [.ref a] ∧ SqL K H a (ns.map V.int) ∧ ns ≠ [] ∧ ns.length ≤ 1000 ∧
  (9999 < lmax ns - lmin ns → ∀ H', Same H H' → Q .non H') ∧ (¬ 9999 < lmax ns - lmin ns → ∀ (H' : Hp) (p t : Addr), Same H H' → H' p = some (.tup [.int (lmin ns), .int (lmax ns - lmin ns), .ref t]) → SqT K H' t ((packedFrom (lmin ns) (lmax ns - lmin ns) ns).map V.int) → Q (.ref p) H')
theorem ok_labove (T : Txt mg) (D : Df K mg "_law_above" s__law_above P__law_above) (G__law_packed : Fn P w K mg base CX0 2 "_law_packed" P__law_packed (spLpk K)) : Fn P w K mg base CX0 3 "_law_above" P__law_above (spAbv K) := by
  refine D.ok sc__law_above (fun vs H Q E h => ?_) (fun f cdv A outer s H vs Q E hr h => ?_)
  · obtain ⟨a, ns, rfl, _⟩ := h
    rfl
  · obtain ⟨a, ns, rfl, hS, hne, hl, k0, k⟩ := h
    have nd := sc__law_above.nd
    refine ⟨_, (pss_cons (ps_asg (pe_tup (pa_cons (pe_callB (cr_min rfl) (by rfl) T.b_min (by decide +kernel) (pa_cons (pv 0) pa_nil)) (pa_cons (pe_op op_sub (pe_callB (cr_max rfl) (by rfl) T.b_max (by decide +kernel) (pa_cons (pv 0) pa_nil)) (pe_callB (cr_min rfl) (by rfl) T.b_min (by decide +kernel) (pa_cons (pv 0) pa_nil))) pa_nil))) (pg_tup (by rfl) (pgs_cons (pg_name (i := 1) nd rfl (by first | exact Or.inl rfl | exact Or.inr rfl)) (pgs_cons (pg_name (i := 2) nd rfl (by first | exact Or.inl rfl | exact Or.inr rfl)) pgs_nil))))
  (pss_cons (ps_if (pt_cmpR op_gt (pv 2) pe_int (nomark _))
  (pss_one (ps_ret pe_non))
  pss_nil)
  (pss_one (ps_ret (pe_tup (pa_cons (pv 1) (pa_cons (pv 2) (pa_cons (pe_ifExp (pt_cmpR op_eq (pv 2) pe_int (nomark _)) (pe_tup pa_nil) (pe_c G__law_packed (hr.mono (by decide)) pass0 (pa_cons (pe_op op_add (pv 2) pe_int) (pa_cons (pe_lc (own := [("_law_value", 3)]) (g := gName 3) (by rfl) nd  (pi_list (pv 0)) (blkOk_by (own := [("_law_value", 3)]) (N := N__law_above) (sc := defScope s__law_above) (by decide +kernel)) (fun _ _ _ _ _ => pg_name (i := 3) nd rfl (Or.inl rfl)) (fun _ _ _ _ _ => pts_nil) (fun _ _ _ _ _ => (pe_op op_sub (pv 3) (pv 1)))) pa_nil)))) pa_nil)))))))), ?_⟩
    have pos := List.length_pos_iff.mpr hne
    refine ⟨_, rfl, a, ns, rfl, hS, pos, fun m1 m2 m3 => ?_⟩
    obtain rfl := lmin_eq m2 m3
    refine ⟨_, rfl, a, ns, rfl, hS, pos, fun g1 g2 g3 => ?_⟩
    obtain rfl := lmax_eq g2 g3
    refine ⟨_, rfl, a, ns, rfl, hS, pos, fun m4 m5 m6 => ?_⟩
    obtain rfl := lmin_eq m5 m6
    refine ⟨_, _, rfl, rfl, (by show 2 ≤ sizeLine; decide), fun q nq => ?_⟩
    have sq := Same.upd (o := .tup [.int (lmin ns), .int (lmax ns - lmin ns)]) nq
    refine ⟨q, _, rfl, SqT.of upd_same, rfl, _, _, rfl, _, _, rfl, rfl, ?_⟩
    refine ⟨_, rfl, _, _, rfl, rfl, _, rfl, ?_⟩
    refine ite2 (fun c => k0 (of_decide_eq_true c) _ sq) (fun c => ?_)
    have c0 : ¬ 9999 < lmax ns - lmin ns := fun z => c (decide_eq_true z)
    have sp := span_nn hne
    refine ⟨_, rfl, _, rfl, _, rfl, rfl, _, rfl, ?_⟩
    refine ite2 (fun c => ?_) (fun c => ?_)
    · have c' : lmax ns - lmin ns = 0 := V.int.inj (of_decide_eq_true c)
      refine ⟨Nat.zero_le _, fun t nt => ⟨(by show 3 ≤ sizeLine; decide), fun p np => ?_⟩⟩
      refine k c0 _ p t ((sq.upd' nt).upd' np) upd_same ((Same.upd np).seqT ?_)
      unfold packedFrom
      rw [if_pos c']
      exact SqT.of upd_same
    · have c' : ¬ lmax ns - lmin ns = 0 := fun z => c (decide_eq_true (congrArg V.int z))
      refine ⟨_, rfl, _, _, rfl, rfl, _, rfl, a, rfl, ⟨_, sq.seq hS⟩, fun D0 nD => ?_⟩
      refine lc_all walk_list (fun i H' => Same H H' ∧ H' D0 = some (.lst (((ns.take i).map (· - lmin ns)).map V.int))) ⟨sq.upd' nD, upd_same⟩ (fun i H' _ ⟨s5, _⟩ => s5.seq hS) ?_ ?_
      · rintro i x H2 H3 hi ⟨s2, hD⟩ ⟨rfl, e⟩
        rw [List.length_map] at hi
        obtain ⟨z, hz, rfl⟩ := map_at e
        refine ⟨_, rfl, _, rfl, _, _, rfl, rfl, _, hD, ?_, Same.put s2 (sq.free nD), ?_⟩
        · rw [List.length_map, List.length_map, List.length_take, sizeLine_eq]
          omega
        · rw [upd_same, take_more hz, List.map_append, List.map_append]
          rfl
      · rintro H2 ⟨s2, hD⟩
        rw [List.length_map, List.take_length] at hD
        refine ⟨lmax ns - lmin ns + 1, D0, ns.map (· - lmin ns), rfl, SqL.of hD, by omega, by omega, by rw [List.length_map]; omega, fun H3 t s3 nt ht => ⟨(by show 3 ≤ sizeLine; decide), fun p np => ?_⟩⟩
        refine k c0 _ p t ((s2.trans s3).upd' np) upd_same ((Same.upd np).seqT ?_)
        unfold packedFrom
        rw [if_neg c']
        exact SqT.of ht
end
end K3

set_option Elab.async false
set_option linter.all false
set_option maxRecDepth 100000
set_option maxHeartbeats 4000000
namespace K3
open PySem PySem.Spec PyProof.Rows L2
theorem mt_lixK {X : Cx} {K : PySem.W.Frag} (e : X.K = K) : MtR X "list.index" (rIndex K) := by
  subst e
  exact mt_index
/-- a comprehension of one name with an if -/
theorem lc_if {J : It} {n : Nat} {G : Hp → Prop} {Y : Nat → Hp → V → Hp → Prop} (w : Walk J n G Y) {j : Nat} {tt : TT} {te : TE} {σ : L2.St} {H1 : Hp} {D : Addr} {Qd : Hp → Prop} (Pv : Nat → Hp → Prop) (h0 : Pv 0 (L2.upd H1 D (.lst []))) (hG : ∀ i H, i ≤ n → Pv i H → G H)
    (hs : ∀ i x H H', i < n → Pv i H → Y i H x H' → tt (σ.set j (some x)) H' fun b H3 => if b = true then te (σ.set j (some x)) H3 fun y H4 => ∃ acc, H4 D = some (.lst acc) ∧ acc.length < sizeLine ∧ Pv (i + 1) (L2.upd H4 D (.lst (acc ++ [y]))) else Pv (i + 1) H3) (hd : ∀ H, Pv n H → Qd H) :
    ∃ W : Nat → Nat → Hp → Prop, (∃ m, W 0 m (L2.upd H1 D (.lst []))) ∧ ∀ i m H, W i m H →
      (J.stop i H ∧ Qd H) ∨ (J.go i H ∧ ∃ Nx : Hp → Prop, (∀ H', Nx H' → ∃ m', m' < m ∧ W (i + 1) m' H') ∧ ∀ x H', J.yld i H x H' → gName j x (wipe σ [j]) H' fun σ2 H2 => wipe σ2 [j] = wipe σ [j] ∧ tt σ2 H2 fun b H3 =>
        if b = true then te σ2 H3 fun y H4 => ∃ acc, H4 D = some (.lst acc) ∧ acc.length < sizeLine ∧ Nx (L2.upd H4 D (.lst (acc ++ [y]))) else Nx H3) := by
  refine lc_it w Pv h0 hG (fun i x H H' hi p y => ?_) hd
  have q := hs i x H H' hi p y
  have e : (wipe σ [j]).set j (some x) = σ.set j (some x) := by
    show (σ.set j none).set j (some x) = σ.set j (some x)
    rw [List.set_set]
  refine ⟨?_, ?_⟩
  · show ((σ.set j none).set j (some x)).set j none = σ.set j none
    rw [List.set_set, List.set_set]
  · show tt ((wipe σ [j]).set j (some x)) H' (fun b H3 => if b = true then te ((wipe σ [j]).set j (some x)) H3 (fun y H4 => ∃ acc, H4 D = some (.lst acc) ∧ acc.length < sizeLine ∧ Pv (i + 1) (L2.upd H4 D (.lst (acc ++ [y])))) else Pv (i + 1) H3)
    rw [e]
    exact q
/-- those that aren't the first -/
def unlikes (ns : List Int) : List Int := ns.filter fun v => !decide (V.int v = V.int (ns.headD 0))
theorem unlikes_nil {ns : List Int} (h : ns ≠ []) : unlikes ns = [] ↔ ¬ lmin ns < lmax ns := by
  obtain ⟨a, b⟩ := lmin_ok h
  obtain ⟨c, d⟩ := lmax_ok h
  have hh : ns.headD 0 ∈ ns := by
    cases ns with
    | nil => exact absurd rfl h
    | cons n r => exact List.mem_cons_self ..
  unfold unlikes
  rw [List.filter_eq_nil_iff]
  constructor
  · intro q lt
    have q1 : lmin ns = ns.headD 0 := by
      have := q _ a
      by_cases e : lmin ns = ns.headD 0
      · exact e
      · exact absurd (by rw [decide_eq_false (fun z => e (V.int.inj z))]; rfl) this
    have q2 : lmax ns = ns.headD 0 := by
      have := q _ c
      by_cases e : lmax ns = ns.headD 0
      · exact e
      · exact absurd (by rw [decide_eq_false (fun z => e (V.int.inj z))]; rfl) this
    omega
  · intro n v hv
    have h1 := b v hv
    have h2 := d v hv
    have h3 := b _ hh
    have h4 := d _ hh
    have e : v = ns.headD 0 := by omega
    simp [e]
theorem usort_one {ns : List Int} (h : ns ≠ []) : (usort ns).length < 2 ↔ ¬ lmin ns < lmax ns := by
  have nd : (usort ns).Nodup := (usort_rises ns).imp fun {a b} l e => by omega
  have q := one_iff (ks := usort ns) h nd fun k => mem_usort k ns
  have p := List.length_pos_iff.mpr (usort_ne h)
  rw [← q]
  omega
def tyLs (K : PySem.W.Frag) (x : V) (H : Hp) : Prop := tyV K "list" x H
theorem ty_ls {X : Cx} {K : PySem.W.Frag} (e : X.K = K) : TyOk X "list" (tyLs K) := by
  subst e
  intro pins σ H s x v I r h
  exact tyV_is I r h
section
variable {P : Program} {w : World} {K : PySem.W.Frag} {mg : Str → Option Value} {base : Heap}
abbrev s__law_form : Stmt := top 54
abbrev N__law_form : List Str := ["_law_name", "_law_values_here", "_law_many", "_law_alike_here", "_law_value", "_law_unlike", "_law_places", "_law_above_here", "_law_k"]
abbrev P__law_form : List Str := ["_law_name", "_law_values_here"]
theorem sc__law_form : FnScope N__law_form P__law_form (defScope s__law_form) := ⟨rfl, rfl, rfl, by decide +kernel, rfl, by decide +kernel, by decide +kernel⟩
def spLf (K : PySem.W.Frag) : Sp := fun vs H Q _ => ∃ (i : Nat) (a : Addr) (ns : List Int), vs = [.str (nmOf i), .ref a] ∧ i < 5 ∧ SqL K H a (ns.map V.int) ∧ Good ns ∧
  (K3.mk i ns = none → ∀ H', Same H H' → Q .non H') ∧ (∀ F, K3.mk i ns = some F → ∀ (H' : Hp) (p : Addr), Same H H' → IsF K H' p F → Q (.ref p) H')
theorem ok_lform (T : Txt mg) (D : Df K mg "_law_form" s__law_form P__law_form) (G__law_packed : Fn P w K mg base CX0 2 "_law_packed" P__law_packed (spLpk K)) (G__law_above : Fn P w K mg base CX0 3 "_law_above" P__law_above (spAbv K)) : Fn P w K mg base CX0 4 "_law_form" P__law_form (spLf K) := by
  refine D.ok sc__law_form (fun vs H Q E h => ?_) (fun f cdv A outer s H vs Q E hr h => ?_)
  · obtain ⟨i, a, ns, rfl, _⟩ := h
    rfl
  · obtain ⟨i, a, ns, rfl, hi, hS, G, k0, k⟩ := h
    have nd := sc__law_form.nd
    refine ⟨_, (pss_cons (ps_set (i := 2) nd rfl (by first | exact Or.inl rfl | exact Or.inr rfl) (pe_callB call_len_seq (by rfl) T.b_len (by decide +kernel) (pa_cons (pv 1) pa_nil)))
  (pss_cons (ps_set (i := 3) nd rfl (by first | exact Or.inl rfl | exact Or.inr rfl) (pe_cmpR (op_eqIs hr.units) (pe_lc (own := [("_law_value", 4)]) (g := gName 4) (by rfl) nd  (pi_list (pv 1)) (blkOk_by (own := [("_law_value", 4)]) (N := N__law_form) (sc := defScope s__law_form) (by decide +kernel)) (fun _ _ _ _ _ => pg_name (i := 4) nd rfl (Or.inl rfl)) (fun _ _ _ _ _ => pts_one (pt_cmpR op_ne (pv 4) (pe_ix (ix_listK (K := K) rfl) (pv 1) pe_int (fun _ _ => rfl)) (nomark _))) (fun _ _ _ _ _ => (pv 4))) (pe_lst pa_nil) (nomark _)))
  (pss_cons (ps_if (pt_cmpR op_eq (pv 0) pe_str (nomark _))
  (pss_one (ps_ret (pe_tup (pa_cons pe_str (pa_cons (pe_callTy call_tuple_of (by rfl) T.b_tuple (by decide +kernel) (pa_cons (pv 1) pa_nil)) pa_nil)))))
  pss_nil)
  (pss_cons (ps_if (pt_cmpR op_eq (pv 0) pe_str (nomark _))
  (pss_one (ps_ret (pe_ifExp (pt_val (pv 3)) (pe_tup (pa_cons pe_str (pa_cons (pv 2) (pa_cons (pe_ix (ix_listK (K := K) rfl) (pv 1) pe_int (fun _ _ => rfl)) pa_nil)))) pe_non)))
  pss_nil)
  (pss_cons (ps_if (pt_cmpR op_eq (pv 0) pe_str (nomark _))
  (pss_cons (ps_if (pt_val (pv 3))
  (pss_one (ps_ret pe_non))
  pss_nil)
  (pss_cons (ps_set (i := 5) nd rfl (by first | exact Or.inl rfl | exact Or.inr rfl) (pe_callB (cr_sortedSet rfl) (by rfl) T.b_sorted (by decide +kernel) (pa_cons (pe_callTy (cr_setL rfl) (by rfl) T.b_set (by decide +kernel) (pa_cons (pv 1) pa_nil)) pa_nil)))
  (pss_cons (ps_setLc (i := 6) (own := [("_law_value", 4)]) (g := gName 4) (by rfl) nd rfl rfl (sw_true rfl rfl rfl (by decide +kernel)) (pi_list (pv 1)) (blkOk_by (own := [("_law_value", 4)]) (N := N__law_form) (sc := defScope s__law_form) (by decide +kernel)) (fun _ _ _ _ _ => pg_name (i := 4) nd rfl (Or.inl rfl)) (fun _ _ _ _ _ => pts_nil) (fun _ _ _ _ _ => (pe_mG (ty_ls (K := K) rfl) PySem.F.plainAttrs_list PySem.F.slot_list_index PySem.F.type_list_index (mt_lixK (K := K) rfl) (pv 5) (pa_cons (pv 4) pa_nil))))
  (pss_one (ps_ret (pe_tup (pa_cons pe_str (pa_cons (pv 2) (pa_cons (pe_callTy call_tuple_of (by rfl) T.b_tuple (by decide +kernel) (pa_cons (pv 5) pa_nil)) (pa_cons (pe_c G__law_packed (hr.mono (by decide)) pass0 (pa_cons (pe_callB call_len_seq (by rfl) T.b_len (by decide +kernel) (pa_cons (pv 5) pa_nil)) (pa_cons (pv 6) pa_nil))) pa_nil))))))))))
  pss_nil)
  (pss_cons (ps_if (pt_cmpR op_eq (pv 0) pe_str (nomark _))
  (pss_cons (ps_set (i := 7) nd rfl (by first | exact Or.inl rfl | exact Or.inr rfl) (pe_c G__law_above (hr.mono (by decide)) pass0 (pa_cons (pv 1) pa_nil)))
  (pss_one (ps_ret (pe_ifExp (PW.pt (pw_or (pt_val (pv 3)) (pw_or1 (pt_cmpR op_isN (pv 7) pe_non (nomark _))))) pe_non (pe_op op_catT (pe_tup (pa_cons pe_str (pa_cons (pv 2) pa_nil))) (pv 7))))))
  pss_nil)
  (pss_cons (ps_if (pt_cmpR op_lt (pv 2) pe_int (nomark _))
  (pss_one (ps_ret pe_non))
  pss_nil)
  (pss_cons (ps_set (i := 7) nd rfl (by first | exact Or.inl rfl | exact Or.inr rfl) (pe_c G__law_above (hr.mono (by decide)) pass0 (pa_cons (pe_lc (own := [("_law_k", 8)]) (g := gName 8) (by rfl) nd  (pi_range2 (by rfl) T.b_range (pa_cons pe_int (pa_cons (pv 2) pa_nil))) (blkOk_by (own := [("_law_k", 8)]) (N := N__law_form) (sc := defScope s__law_form) (by decide +kernel)) (fun _ _ _ _ _ => pg_name (i := 8) nd rfl (Or.inl rfl)) (fun _ _ _ _ _ => pts_nil) (fun _ _ _ _ _ => (pe_op op_sub (pe_ix (ix_listK (K := K) rfl) (pv 1) (pv 8) (fun _ _ => rfl)) (pe_ix (ix_listK (K := K) rfl) (pv 1) (pe_op op_sub (pv 8) pe_int) (fun _ _ => rfl))))) pa_nil)))
  (pss_one (ps_ret (pe_ifExp (pt_cmpR op_isN (pv 7) pe_non (nomark _)) pe_non (pe_op op_catT (pe_tup (pa_cons pe_str (pa_cons (pv 2) (pa_cons (pe_ix (ix_listK (K := K) rfl) (pv 1) pe_int (fun _ _ => rfl)) pa_nil)))) (pv 7))))))))))))), ?_⟩
    have few := G.few
    have ne := G.ne
    have h0 : (ns.map V.int)[0]? = some (.int (ns.headD 0)) := by
      obtain ⟨n, r, rfl⟩ : ∃ n r, ns = n :: r := List.exists_cons_of_ne_nil ne
      rfl
    have ha0 : atI (ns.map V.int) 0 = some (.int (ns.headD 0)) := at_of (z := 0) (j := 0) rfl h0
    refine ⟨_, rfl, a, _, rfl, .inl hS, ?_⟩
    rw [List.length_map]
    refine ⟨_, rfl, a, rfl, ⟨_, hS⟩, fun D0 nD => ?_⟩
    refine lc_if walk_list (fun m H' => Same H H' ∧ H' D0 = some (.lst (((ns.take m).filter fun v => !decide (V.int v = V.int (ns.headD 0))).map V.int))) ⟨Same.upd nD, upd_same⟩ (fun _ _ _ h => h.1.seq hS) ?_ ?_
    · rintro m x H2 H2' hm ⟨s2, hD⟩ ⟨rfl, e⟩
      obtain ⟨z, hz, rfl⟩ := map_at e
      refine ⟨_, rfl, _, rfl, a, _, 0, .int (ns.headD 0), rfl, rfl, s2.seq hS, ha0, rfl, _, rfl, ?_⟩
      refine ite2 (fun c => ?_) (fun c => ?_)
      · refine ⟨_, rfl, _, hD, ?_, Same.put s2 nD, ?_⟩
        · have := List.length_filter_le (fun v => !decide (V.int v = V.int (ns.headD 0))) (ns.take m)
          rw [List.length_take] at this
          rw [List.length_map, sizeLine_eq]
          omega
        · have ef : List.filter (fun v => !decide (V.int v = V.int (ns.headD 0))) [z] = [z] := by rw [List.filter_cons_of_pos (p := (fun v => !decide (V.int v = V.int (ns.headD 0)))) c, List.filter_nil]
          rw [upd_same, take_more hz, List.filter_append, List.map_append, ef]
          rfl
      · refine ⟨s2, ?_⟩
        have ef : List.filter (fun v => !decide (V.int v = V.int (ns.headD 0))) [z] = [] := by rw [List.filter_cons_of_neg (p := (fun v => !decide (V.int v = V.int (ns.headD 0)))) c, List.filter_nil]
        rw [take_more hz, List.filter_append, ef, List.append_nil]
        exact hD
    rintro H2 ⟨s2, hD⟩
    rw [List.length_map, List.take_length] at hD
    have hD : H2 D0 = some (.lst ((unlikes ns).map V.int)) := hD
    refine ⟨(by show 0 ≤ sizeLine; decide), fun q nq => ?_⟩
    have sq := Same.upd (o := .lst []) nq
    refine ⟨D0, q, unlikes ns, [], rfl, rfl, SqL.of (sq _ _ hD), SqL.of upd_same, ?_⟩
    have s3 := s2.trans sq
    generalize upd H2 q (.lst []) = H3 at s3 ⊢
    have al := unlikes_nil ne
    refine ⟨_, rfl, rfl, _, rfl, ?_⟩
    refine ite2 (fun c => ?_) (fun c0 => ?_)
    · obtain rfl : i = 0 := nm_inj _ hi _ (by decide) (V.str.inj (of_decide_eq_true c))
      refine ⟨_, rfl, a, _, rfl, .inl ⟨s3.seq hS, fun l nl => ⟨(by show 2 ≤ sizeLine; decide), fun p np => ?_⟩⟩⟩
      exact k _ rfl _ p ((s3.upd' nl).upd' np) ⟨l, SqT.of upd_same, (Same.upd np).seqT (SqT.of upd_same)⟩
    refine ⟨_, rfl, rfl, _, rfl, ?_⟩
    refine ite2 (fun c => ?_) (fun c1 => ?_)
    · obtain rfl : i = 1 := nm_inj _ hi _ (by decide) (V.str.inj (of_decide_eq_true c))
      refine ⟨_, rfl, _, rfl, ?_⟩
      refine ite2 (fun c => ?_) (fun c => ?_)
      · have c' := al.mp (of_decide_eq_true c)
        refine ⟨_, rfl, _, rfl, a, _, 0, _, rfl, rfl, s3.seq hS, ha0, (by show 3 ≤ sizeLine; decide), fun p np => ?_⟩
        exact k (.one ns.length (ns.headD 0)) (if_neg c') _ p (s3.upd' np) (SqT.of upd_same)
      · have c' : lmin ns < lmax ns := by
          by_cases h : lmin ns < lmax ns
          · exact h
          · exact absurd (decide_eq_true (al.mpr h)) c
        exact k0 (if_pos c') _ s3
    refine ⟨_, rfl, rfl, _, rfl, ?_⟩
    refine ite2 (fun c => ?_) (fun c2 => ?_)
    · obtain rfl : i = 2 := nm_inj _ hi _ (by decide) (V.str.inj (of_decide_eq_true c))
      refine ⟨_, rfl, _, rfl, ?_⟩
      refine ite2 (fun c => ?_) (fun c => ?_)
      · exact k0 (if_pos ((usort_one ne).mpr (al.mp (of_decide_eq_true c)))) _ s3
      have c0' : ¬ (usort ns).length < 2 := fun z => c (decide_eq_true (al.mpr ((usort_one ne).mp z)))
      refine ⟨_, rfl, a, ns, rfl, s3.seq hS, by omega, fun p n ks np hn nk mk hk => ?_⟩
      refine ⟨p, _, n, rfl, upd_same, by omega, fun u t rises mem hu nt => ?_⟩
      have eu : u = usort ns := usort_eq rises fun k => (mem k).trans decide_eq_true_iff
      subst eu
      have s5 := (s3.upd' np).upd' (o := .lst ((usort ns).map V.int)) nt
      have hu' := usort_length ns
      refine ⟨_, rfl, a, rfl, ⟨_, s5.seq hS⟩, fun D1 nD1 => ?_⟩
      refine lc_all walk_list (fun m H' => Same H H' ∧ H' t = some (.lst ((usort ns).map V.int)) ∧ H' D1 = some (.lst (((ns.take m).map fun v => (idx (usort ns) v : Int)).map V.int))) ⟨s5.upd' nD1, Same.upd nD1 _ _ upd_same, upd_same⟩ (fun _ _ _ h => h.1.seq hS) ?_ ?_
      · rintro m x H6 H6' hm ⟨s6, ht, hD1⟩ ⟨rfl, e⟩
        obtain ⟨z, hz, rfl⟩ := map_at e
        have zm := (mem_usort z ns).mpr (List.mem_of_getElem? hz)
        refine ⟨_, rfl, .inl ⟨rfl, _, SqL.of ht⟩, _, rfl, t, (usort ns).map V.int, .int z, idx (usort ns) z, .int z, rfl, rfl, SqL.of ht, rfl, flat_ints _, by rw [List.getElem?_map, idx_get zm]; rfl, beq_self_eq_true z, fun m' z' hm' hz' => ?_, _, hD1, ?_, Same.put s6 (s5.free nD1), ?_, ?_⟩
        · obtain ⟨y, hy, rfl⟩ := map_at hz'
          show (y == z) = false
          exact beq_eq_false_iff_ne.mpr fun e => idx_first hm' (by rw [hy, e])
        · rw [List.length_map, List.length_map, List.length_take, sizeLine_eq]
          omega
        · rw [upd_ne (ne_of_none (Same.refl _ _ _ (show (upd (upd H3 p _) t _) t = some _ from upd_same)) nD1)]
          exact ht
        · rw [upd_same, take_more hz, List.map_append, List.map_append]
          rfl
      rintro H6 ⟨s6, ht, hD1⟩
      rw [List.length_map, List.take_length] at hD1
      refine ⟨_, rfl, _, rfl, t, _, rfl, .inl ⟨SqL.of ht, fun l nl => ?_⟩⟩
      have sl := Same.upd (o := .tup ((usort ns).map V.int)) nl
      refine ⟨_, rfl, t, _, rfl, .inl (SqL.of (sl _ _ ht)), _, rfl, ((usort ns).length : Nat), D1, ns.map (fun v => (idx (usort ns) v : Int)), (by rw [List.length_map]; rfl), SqL.of (sl _ _ hD1), by omega, by omega, by rw [List.length_map]; omega, fun H7 r s7 nr hr7 => ⟨(by show 4 ≤ sizeLine; decide), fun p2 np2 => ?_⟩⟩
      refine k _ (if_neg c0') _ p2 (((s6.trans sl).trans s7).upd' np2) ⟨l, r, SqT.of upd_same, (Same.upd np2).seqT (s7.seqT (SqT.of upd_same)), (Same.upd np2).seqT (SqT.of hr7)⟩
    refine ⟨_, rfl, rfl, _, rfl, ?_⟩
    refine ite2 (fun c => ?_) (fun c3 => ?_)
    · obtain rfl : i = 3 := nm_inj _ hi _ (by decide) (V.str.inj (of_decide_eq_true c))
      refine ⟨_, rfl, a, ns, rfl, s3.seq hS, ne, by omega, fun big H4 s4 => ?_, fun small H4 p t s4 hp ht => ?_⟩
      · refine ⟨_, rfl, _, rfl, ite2 (fun _ => k0 (if_pos (.inr big)) _ (s3.trans s4)) (fun _ => ⟨_, rfl, rfl, _, rfl, ?_⟩)⟩
        exact ite2 (fun _ => k0 (if_pos (.inr big)) _ (s3.trans s4)) (fun c => absurd rfl c)
      · refine ⟨_, rfl, _, rfl, ite2 (fun c => ?_) (fun c => ⟨_, rfl, rfl, _, rfl, ?_⟩)⟩
        · have c' := al.mp (of_decide_eq_true c)
          have := span_nn ne
          exact k0 (if_pos (.inl (by omega))) _ (s3.trans s4)
        · refine ite2 (fun c => nomatch (of_decide_eq_true c)) (fun _ => ?_)
          have c' : lmin ns < lmax ns := by
            by_cases h : lmin ns < lmax ns
            · exact h
            · exact absurd (decide_eq_true (al.mpr h)) c
          refine ⟨_, rfl, (by show 2 ≤ sizeLine; decide), fun l nl => ⟨_, rfl, l, p, _, _, rfl, rfl, SqT.of upd_same, SqT.of (Same.upd nl _ _ hp), (fun z => nomatch z), (by show 2 + 3 ≤ sizeLine; decide), (fun z => nomatch z), fun _ r nr => ?_⟩⟩
          refine k _ (if_neg (by omega)) _ r (((s3.trans s4).upd' nl).upd' nr) ⟨t, SqT.of upd_same, (Same.upd nr).seqT ((Same.upd nl).seqT ht)⟩
    obtain rfl : i = 4 := by
      match i, hi, c0, c1, c2, c3 with
      | 0, _, c, _, _, _ => exact absurd rfl c
      | 1, _, _, c, _, _ => exact absurd rfl c
      | 2, _, _, _, c, _ => exact absurd rfl c
      | 3, _, _, _, _, c => exact absurd rfl c
      | 4, _, _, _, _, _ => rfl
      | n + 5, h, _, _, _, _ => omega
    refine ⟨_, rfl, _, _, rfl, rfl, _, rfl, ?_⟩
    refine ite2 (fun c => ?_) (fun c4 => ?_)
    · have c' : (ns.length : Int) < 2 := of_decide_eq_true c
      exact k0 (if_pos (by omega)) _ s3
    have c4' : ¬ ns.length < 2 := fun z => c4 (decide_eq_true (by omega))
    have hst := steps_length ns
    refine ⟨_, rfl, 1, _, rfl, ⟨by decide, by decide, by omega, by omega⟩, fun D1 nD1 => ?_⟩
    have en : ((ns.length : Int) - 1).toNat = (steps ns).length := by
      rw [hst]
      omega
    rw [en]
    refine lc_all (walk_range (lo := 1)) (fun i H' => Same H H' ∧ H' D1 = some (.lst (((steps ns).take i).map V.int))) ⟨s3.upd' nD1, upd_same⟩ (fun _ _ _ _ => True.intro) ?_ ?_
    · rintro j x H4 H4' hj ⟨s4, hD1⟩ ⟨rfl, rfl⟩
      have h1 : ns[j]? = some ns[j] := List.getElem?_eq_getElem (by omega)
      have h2 : ns[j + 1]? = some ns[j + 1] := List.getElem?_eq_getElem (by omega)
      have hs := step_at h1 h2
      refine ⟨_, rfl, _, rfl, a, _, _, .int ns[j + 1], rfl, rfl, s4.seq hS, at_of (j := j + 1) (by omega) (by rw [List.getElem?_map, h2]; rfl), _, rfl, _, rfl, _, _, rfl, rfl, a, _, _, .int ns[j], rfl, rfl, s4.seq hS, at_of (j := j) (by omega) (by rw [List.getElem?_map, h1]; rfl), _, _, rfl, rfl, _, hD1, ?_, Same.put s4 (s3.free nD1), ?_⟩
      · rw [List.length_map, List.length_take, sizeLine_eq]
        omega
      · rw [upd_same, take_more hs, List.map_append]
        rfl
    rintro H4 ⟨s4, hD1⟩
    rw [List.take_length] at hD1
    refine ⟨D1, steps ns, rfl, SqL.of hD1, steps_ne c4', by omega, fun big H5 s5 => ?_, fun small H5 p t s5 hp ht => ?_⟩
    · refine ⟨_, rfl, rfl, _, rfl, ?_⟩
      refine ite2 (fun _ => k0 ?_ _ (s4.trans s5)) (fun c => absurd rfl c)
      show mkSteps ns = none
      unfold mkSteps
      rw [if_neg c4', if_pos big]
    · refine ⟨_, rfl, rfl, _, rfl, ?_⟩
      refine ite2 (fun c => nomatch (of_decide_eq_true c)) (fun _ => ?_)
      refine ⟨_, rfl, _, rfl, a, _, 0, _, rfl, rfl, (s4.trans s5).seq hS, ha0, (by show 3 ≤ sizeLine; decide), fun l nl => ⟨_, rfl, l, p, _, _, rfl, rfl, SqT.of upd_same, SqT.of (Same.upd nl _ _ hp), (fun z => nomatch z), (by show 3 + 3 ≤ sizeLine; decide), (fun z => nomatch z), fun _ r nr => ?_⟩⟩
      have em : mkSteps ns = some (.steps ns.length (ns.headD 0) (lmin (steps ns)) (lmax (steps ns) - lmin (steps ns)) (packedFrom (lmin (steps ns)) (lmax (steps ns) - lmin (steps ns)) (steps ns))) := by
        unfold mkSteps
        rw [if_neg c4', if_neg small]
      exact k _ em _ r (((s4.trans s5).upd' nl).upd' nr) ⟨t, SqT.of upd_same, (Same.upd nr).seqT ((Same.upd nl).seqT ht)⟩
end
end K3

set_option Elab.async false
set_option linter.all false
set_option maxRecDepth 100000
set_option maxHeartbeats 4000000
namespace K3
open PySem PySem.Spec PyProof.Rows L2
/-- so many numbers and texts within one another -/
inductive RoomV (K : PySem.W.Frag) (H : Hp) : Nat → V → Nat → Prop where
  | int {n : Nat} (i : Int) : RoomV K H n (.int i) 1
  | str {n : Nat} (z : Str) : RoomV K H n (.str z) 1
  | tup {n : Nat} {a : Addr} {xs : List V} {ws : List Nat} (ha : SqT K H a xs) (hl : xs.length ≤ 10000) (h : xs.length = ws.length) (e : ∀ (i : Nat) (x : V) (w : Nat), xs[i]? = some x → ws[i]? = some w → RoomV K H n x w) : RoomV K H (n + 1) (.ref a) ws.sum
theorem natsum_cast : ∀ ws : List Nat, (ws.map fun w : Nat => (w : Int)).sum = (ws.sum : Nat)
  | [] => rfl
  | w :: r => by
    rw [List.map_cons, List.sum_cons, List.sum_cons, natsum_cast r, Int.natCast_add]
theorem RoomV.same {K : PySem.W.Frag} {H H' : Hp} (s : Same H H') {n : Nat} {x : V} {w : Nat} (h : RoomV K H n x w) : RoomV K H' n x w := by
  induction h with
  | int i => exact .int i
  | str z => exact .str z
  | tup ha hl hh _ ih => exact .tup (s.seqT ha) hl hh ih
theorem ones_sum : ∀ n : Nat, (List.replicate n 1).sum = n
  | 0 => rfl
  | n + 1 => by rw [List.replicate_succ, List.sum_cons, ones_sum n]; omega
theorem roomInts {K : PySem.W.Frag} {H : Hp} {q : Addr} {ns : List Int} (h : SqT K H q (ns.map V.int)) (hl : ns.length ≤ 10000) : RoomV K H 1 (.ref q) ns.length := by
  have k := RoomV.tup (n := 0) (ws := List.replicate ns.length 1) h (by rw [List.length_map]; exact hl) (by rw [List.length_map, List.length_replicate]) fun i x w hx hw => by
    obtain ⟨z, _, rfl⟩ := map_at hx
    obtain ⟨hi, hw2⟩ := List.getElem?_eq_some_iff.mp hw
    rw [List.getElem_replicate] at hw2
    subst hw2
    exact .int z
  rw [ones_sum] at k
  exact k
theorem roomV_of {K : PySem.W.Frag} {H : Hp} {a : Addr} {xs : List V} {ws : List Nat} {n r : Nat} (ha : SqT K H a xs) (hl : xs.length ≤ 10000) (p : Paired (RoomV K H n) xs ws) (hr : ws.sum = r) : RoomV K H (n + 1) (.ref a) r := by
  subst hr
  refine .tup ha hl (Paired.length p) fun i x w hx hw => ?_
  obtain ⟨y, hy, R⟩ := paired_at p hx
  rw [hw] at hy
  cases hy
  exact R
theorem roomF {K : PySem.W.Frag} {H : Hp} {a : Addr} {F : Form} (h : IsF K H a F) (ok : FOk F) : RoomV K H 2 (.ref a) (room F) := by
  cases F with
  | plain vs =>
    obtain ⟨q, h1, h2⟩ := h
    have ok : vs.length ≤ 1000 := ok
    exact roomV_of h1 (by show 2 ≤ 10000; decide) (.cons (.str _) (.cons (roomInts h2 (by omega)) .nil)) (by simp [room])
  | one n v => exact roomV_of (show SqT K H a _ from h) (by show 3 ≤ 10000; decide) (.cons (.str _) (.cons (.int _) (.cons (.int _) .nil))) rfl
  | codes n u c =>
    obtain ⟨q, r, h1, h2, h3⟩ := h
    obtain ⟨_, o2, o3, o4⟩ := ok
    exact roomV_of h1 (by show 4 ≤ 10000; decide) (.cons (.str _) (.cons (.int _) (.cons (roomInts h2 (by omega)) (.cons (roomInts h3 (by omega)) .nil)))) (by simp [room]; omega)
  | near n l s c =>
    obtain ⟨r, h1, h3⟩ := h
    obtain ⟨_, o2, o3, o4⟩ := ok
    exact roomV_of h1 (by show 5 ≤ 10000; decide) (.cons (.str _) (.cons (.int _) (.cons (.int _) (.cons (.int _) (.cons (roomInts h3 (by omega)) .nil))))) (by simp [room]; omega)
  | steps n f l s c =>
    obtain ⟨r, h1, h3⟩ := h
    obtain ⟨_, o2, o3, o4⟩ := ok
    exact roomV_of h1 (by show 6 ≤ 10000; decide) (.cons (.str _) (.cons (.int _) (.cons (.int _) (.cons (.int _) (.cons (.int _) (.cons (roomInts h3 (by omega)) .nil)))))) (by simp [room]; omega)
/-- the first of the forms with the fewest cells -/
def bestF (ns : List Int) : Nat → Form
  | 0 => .plain ns
  | i + 1 => match K3.mk i ns with
    | some F => if room F < room (bestF ns i) then F else bestF ns i
    | none => bestF ns i
theorem bestF_room (ns : List Int) : ∀ i, room (bestF ns i) = lr ns i
  | 0 => rfl
  | i + 1 => by
    show room (match K3.mk i ns with | some F => if room F < room (bestF ns i) then F else bestF ns i | none => bestF ns i) = (match K3.mk i ns with | some F => if room F < lr ns i then room F else lr ns i | none => lr ns i)
    rw [← bestF_room ns i]
    split
    · split <;> rfl
    · rfl
/-- where it stands among those made -/
theorem bestF_at (ns : List Int) : ∀ i, ∃ j q, (made ns (i + 1))[j]? = some (q, bestF ns (i + 1)) ∧ (∀ (m : Nat) (q' : Nat × Form), (made ns (i + 1))[m]? = some q' → room (bestF ns (i + 1)) ≤ room q'.2) ∧ ∀ (m : Nat) (q' : Nat × Form), m < j → (made ns (i + 1))[m]? = some q' → room (bestF ns (i + 1)) < room q'.2
  | 0 => by
    have e : made ns 1 = [(0, .plain ns)] := rfl
    have e2 : bestF ns 1 = .plain ns := by
      show (if room (.plain ns) < room (.plain ns) then Form.plain ns else .plain ns) = _
      split <;> rfl
    rw [e, e2]
    refine ⟨0, 0, rfl, fun m q' h => ?_, fun m q' h _ => absurd h (Nat.not_lt_zero _)⟩
    cases m with
    | zero =>
      cases h
      exact Nat.le_refl _
    | succ m => cases h
  | i + 1 => by
    obtain ⟨j, q, h1, h2, h3⟩ := bestF_at ns i
    cases e : K3.mk (i + 1) ns with
    | none =>
      have em : made ns (i + 1 + 1) = made ns (i + 1) := by
        show (match K3.mk (i + 1) ns with | some F => made ns (i + 1) ++ [(i + 1, F)] | none => made ns (i + 1)) = _
        rw [e]
      have eb : bestF ns (i + 1 + 1) = bestF ns (i + 1) := by
        show (match K3.mk (i + 1) ns with | some F => if room F < room (bestF ns (i + 1)) then F else bestF ns (i + 1) | none => bestF ns (i + 1)) = _
        rw [e]
      rw [em, eb]
      exact ⟨j, q, h1, h2, h3⟩
    | some F =>
      have em : made ns (i + 1 + 1) = made ns (i + 1) ++ [(i + 1, F)] := by
        show (match K3.mk (i + 1) ns with | some F => made ns (i + 1) ++ [(i + 1, F)] | none => made ns (i + 1)) = _
        rw [e]
      have eb : bestF ns (i + 1 + 1) = if room F < room (bestF ns (i + 1)) then F else bestF ns (i + 1) := by
        show (match K3.mk (i + 1) ns with | some F => if room F < room (bestF ns (i + 1)) then F else bestF ns (i + 1) | none => bestF ns (i + 1)) = _
        rw [e]
      have hj := (List.getElem?_eq_some_iff.mp h1).1
      have at_ : ∀ (m : Nat) (q' : Nat × Form), (made ns (i + 1) ++ [(i + 1, F)])[m]? = some q' → (m < (made ns (i + 1)).length ∧ (made ns (i + 1))[m]? = some q') ∨ (m = (made ns (i + 1)).length ∧ q' = (i + 1, F)) := fun m q' h => by
        by_cases c : m < (made ns (i + 1)).length
        · rw [List.getElem?_append_left c] at h
          exact .inl ⟨c, h⟩
        · rw [List.getElem?_append_right (by omega)] at h
          obtain ⟨hl, hx⟩ := List.getElem?_eq_some_iff.mp h
          have hl2 : m - (made ns (i + 1)).length < 1 := hl
          have em2 : m = (made ns (i + 1)).length := by omega
          refine .inr ⟨em2, ?_⟩
          subst em2
          simp at hx
          exact hx.symm
      rw [em, eb]
      by_cases c : room F < room (bestF ns (i + 1))
      · rw [if_pos c]
        refine ⟨(made ns (i + 1)).length, i + 1, ?_, fun m q' h => ?_, fun m q' hm h => ?_⟩
        · rw [List.getElem?_append_right (Nat.le_refl _), Nat.sub_self]
          rfl
        · rcases at_ m q' h with ⟨_, k⟩ | ⟨_, rfl⟩
          · have := h2 m q' k
            omega
          · exact Nat.le_refl _
        · rcases at_ m q' h with ⟨_, k⟩ | ⟨k, _⟩
          · have := h2 m q' k
            omega
          · omega
      · rw [if_neg c]
        refine ⟨j, q, ?_, fun m q' h => ?_, fun m q' hm h => ?_⟩
        · rw [List.getElem?_append_left hj]
          exact h1
        · rcases at_ m q' h with ⟨_, k⟩ | ⟨_, rfl⟩
          · exact h2 m q' k
          · show room (bestF ns (i + 1)) ≤ room F
            omega
        · rcases at_ m q' h with ⟨_, k⟩ | ⟨k, _⟩
          · exact h3 m q' hm k
          · omega
section
variable {P : Program} {w : World} {K : PySem.W.Frag} {mg : Str → Option Value} {base : Heap}
abbrev s__law_room : Stmt := top 55
abbrev N__law_room : List Str := ["_law_form_here", "_law_part"]
abbrev P__law_room : List Str := ["_law_form_here"]
theorem sc__law_room : FnScope N__law_room P__law_room (defScope s__law_room) := ⟨rfl, rfl, rfl, by decide +kernel, rfl, by decide +kernel, by decide +kernel⟩
def spLroom (K : PySem.W.Frag) (n : Nat) : Sp := fun vs H Q _ => ∃ (x : V) (r m : Nat), vs = [x] ∧ m < n ∧ RoomV K H m x r ∧ ∀ H', Same H H' → Q (.int (r : Int)) H'
theorem ok_lroomS {n : Nat} (T : Txt mg) (T4 : Txt4 mg) (D : Df K mg "_law_room" s__law_room P__law_room) (G_lroom : Fn P w K mg base CX0 (1 + n) "_law_room" P__law_room (spLroom K n)) : Fn P w K mg base CX0 (1 + n + 1) "_law_room" P__law_room (spLroom K (n + 1)) := by
  refine D.ok sc__law_room (fun vs H Q E h => ?_) (fun f cdv A outer s H vs Q E hr h => ?_)
  · obtain ⟨x, r, m, rfl, _⟩ := h
    rfl
  · obtain ⟨x, r, m, rfl, hm, hR, k⟩ := h
    have nd := sc__law_room.nd
    refine ⟨_, (pss_one (ps_ret (pe_ifExp (pt_val (pe_callB call_isi (by rfl) T.b_isinstance (by decide +kernel) (pa_cons (pv 0) (pa_cons (pe_bltn (v := .ty "tuple") (by rfl) T.b_tuple (by decide +kernel) rfl) pa_nil)))) (pe_callB (cr_sum rfl) (by rfl) T4.b_sum (by decide +kernel) (pa_cons (pe_lc (own := [("_law_part", 1)]) (g := gName 1) (by rfl) nd  (pi_tup (pv 0)) (blkOk_by (own := [("_law_part", 1)]) (N := N__law_room) (sc := defScope s__law_room) (by decide +kernel)) (fun _ _ _ _ _ => pg_name (i := 1) nd rfl (Or.inl rfl)) (fun _ _ _ _ _ => pts_nil) (fun _ _ _ _ _ => (pe_c G_lroom hr pass0 (pa_cons (pv 1) pa_nil)))) pa_nil)) pe_int))), ?_⟩
    cases hR with
    | int i =>
      refine ⟨_, rfl, _, .ty "tuple", .type "int", .type "tuple", false, rfl, .ty _, .base (.int _), kit_ty (by decide +kernel), _, rfl, ?_⟩
      exact ite2 (fun c => Bool.noConfusion c) (fun _ => k _ (Same.refl _))
    | str z =>
      refine ⟨_, rfl, _, .ty "tuple", .type "str", .type "tuple", false, rfl, .ty _, .base (.str _), kit_ty (by decide +kernel), _, rfl, ?_⟩
      exact ite2 (fun c => Bool.noConfusion c) (fun _ => k _ (Same.refl _))
    | @tup m a xs ws ha hl hlen e =>
      refine ⟨_, rfl, _, .ty "tuple", .type "tuple", .type "tuple", true, rfl, .ty _, tyX_seqT ha, kit_ty (by decide +kernel), _, rfl, ?_⟩
      refine ite2 (fun _ => ?_) (fun c => absurd rfl c)
      refine ⟨_, rfl, a, rfl, ⟨_, ha⟩, fun D0 nD => ?_⟩
      refine lc_all (walk_tup (xs := xs)) (fun j H' => Same H H' ∧ H' D0 = some (.lst (((ws.take j).map fun w : Nat => (w : Int)).map V.int))) ⟨Same.upd nD, upd_same⟩ (fun _ _ _ h => h.1.seqT ha) ?_ ?_
      · rintro j x H2 H2' hj ⟨s2, hD⟩ ⟨rfl, ex⟩
        have hw : ws[j]? = some (ws[j]'(by omega)) := List.getElem?_eq_getElem (by omega)
        refine ⟨_, rfl, x, ws[j]'(by omega), m, rfl, by omega, (e j x _ ex hw).same s2, fun H3 s3 => ⟨_, s3 _ _ hD, ?_, Same.put (s2.trans s3) nD, ?_⟩⟩
        · rw [List.length_map, List.length_map, List.length_take, sizeLine_eq]
          omega
        · rw [upd_same, take_more hw, List.map_append, List.map_append]
          rfl
      · rintro H2 ⟨s2, hD⟩
        rw [hlen, List.take_length] at hD
        refine ⟨D0, _, rfl, SqL.of hD, ?_⟩
        rw [natsum_cast]
        exact k _ s2
theorem ok_lroom0 (D : Df K mg "_law_room" s__law_room P__law_room) : Fn P w K mg base CX0 1 "_law_room" P__law_room (spLroom K 0) := by
  obtain ⟨f, fd, F, hm, hb⟩ := D.ex
  refine ⟨f, fd, ⟨fun vs H Q E h => ?_, fun A outer s H args us vs Q E _ _ _ _ h => ?_⟩, hm, F.kp, hb⟩
  · obtain ⟨x, r, m, _, h, _⟩ := h
    exact absurd h (Nat.not_lt_zero _)
  · obtain ⟨x, r, m, _, h, _⟩ := h
    exact absurd h (Nat.not_lt_zero _)
theorem ok_lroom (T : Txt mg) (T4 : Txt4 mg) (D : Df K mg "_law_room" s__law_room P__law_room) : ∀ n, Fn P w K mg base CX0 (1 + n) "_law_room" P__law_room (spLroom K n)
  | 0 => ok_lroom0 D
  | n + 1 => ok_lroomS T T4 D (ok_lroom T T4 D n)
end
end K3

set_option Elab.async false
set_option linter.all false
set_option maxRecDepth 100000
set_option maxHeartbeats 4000000
namespace K3
open PySem PySem.Spec PyProof.Rows L2
def roomsOf (ns : List Int) (i : Nat) : List Int := (made ns i).map fun q => (room q.2 : Int)
theorem roomsOf_length {ns : List Int} (i : Nat) : (roomsOf ns i).length ≤ i := by
  unfold roomsOf
  rw [List.length_map]
  exact made_length i
theorem roomsOf_some {ns : List Int} {i : Nat} {F : Form} (h : K3.mk i ns = some F) : roomsOf ns (i + 1) = roomsOf ns i ++ [(room F : Int)] := by
  have em : made ns (i + 1) = made ns i ++ [(i, F)] := by
    show (match K3.mk i ns with | some F => made ns i ++ [(i, F)] | none => made ns i) = _
    rw [h]
  unfold roomsOf
  rw [em, List.map_append]
  rfl
theorem roomsOf_none {ns : List Int} {i : Nat} (h : K3.mk i ns = none) : roomsOf ns (i + 1) = roomsOf ns i := by
  have em : made ns (i + 1) = made ns i := by
    show (match K3.mk i ns with | some F => made ns i ++ [(i, F)] | none => made ns i) = _
    rw [h]
  unfold roomsOf
  rw [em]
section
variable {P : Program} {w : World} {K : PySem.W.Frag} {mg : Str → Option Value} {base : Heap}
/-- the least form, the very one -/
def spBest (K : PySem.W.Frag) : Sp := fun vs H Q _ => ∃ (a : Addr) (ns : List Int), vs = [.ref a] ∧ SqL K H a (ns.map V.int) ∧ Good ns ∧
  ∀ (H' : Hp) (p : Addr), Same H H' → IsF K H' p (bestF ns 5) → Q (.ref p) H'
theorem ok_best {d : Addr} (T : Txt mg) (M : Makers P w K mg base d) (D : Df K mg "least_form" s_least_form P_least_form) (G_check_values : Fn P w K mg base CX0 1 "check_values" P_check_values (spChV K))
    (G_make_plain : Fn P w K mg base CX0 1 "make_plain" P_make_plain (spMk K mkPlain)) (G_room : Fn P w K mg base CX0 1 "room" P_room (spRoom K)) : Fn P w K mg base CX0 6 "least_form" P_least_form (spBest K) := by
  refine D.ok sc_least_form (fun vs H Q E h => ?_) (fun f cdv A outer s H vs Q E hr h => ?_)
  · obtain ⟨a, ns, rfl, _⟩ := h
    rfl
  · obtain ⟨a, ns, rfl, hS, G, k⟩ := h
    have nd := sc_least_form.nd
    have hM := M.g
    refine ⟨_, (pss_cons (ps_expr (pe_c G_check_values (hr.mono (by decide)) pass0 (pa_cons (pv 0) pa_nil)))
  (pss_cons (ps_set (i := 1) nd rfl (by first | exact Or.inl rfl | exact Or.inr rfl) (pe_c G_make_plain (hr.mono (by decide)) pass0 (pa_cons (pv 0) pa_nil)))
  (pss_cons (ps_for PassesOwn.never rfl (pi_ks (pe_glob (v := .ref d) (by rfl) hM rfl)) (pg_name (i := 2) nd rfl (by first | exact Or.inl rfl | exact Or.inr rfl))
  (pss_cons (ps_set (i := 3) nd rfl (by first | exact Or.inl rfl | exact Or.inr rfl) (pe_ix ix_kdict (pe_glob (v := .ref d) (by rfl) hM rfl) (pv 2) (fun _ _ => rfl)))
  (pss_cons (ps_set (i := 4) nd rfl (by first | exact Or.inl rfl | exact Or.inr rfl) (pe_callH (k := 5) (i := 3) (hr.mono (by decide)) rfl (.inl rfl) (pa_cons (pv 0) pa_nil)))
  (pss_one (ps_if (PW.pt (pw_and (pt_cmpR op_notN (pv 4) pe_non (nomark _)) (pw_and1 (pt_cmpR op_lt (pe_c G_room (hr.mono (by decide)) pass0 (pa_cons (pv 4) pa_nil)) (pe_c G_room (hr.mono (by decide)) pass0 (pa_cons (pv 1) pa_nil)) (nomark _)))))
  (pss_one (ps_set (i := 1) nd rfl (by first | exact Or.inl rfl | exact Or.inr rfl) (pv 4)))
  pss_nil)))))
  (pss_one (ps_ret (pv 1)))))), ?_⟩
    refine ⟨_, rfl, a, ns, rfl, hS, G, fun H1 s1 => ?_⟩
    refine ⟨_, rfl, a, ns, rfl, s1.seq hS, G, (fun z => nomatch z), fun F hF H2 p s2 hp => ?_⟩
    obtain rfl : Form.plain ns = F := Option.some.inj hF
    refine ⟨d, nms, rfl, M.keys, for_it walk_ks (fun i σ H' => ∃ (q : Addr) (v2 v3 v4 : Option V), σ = [some (.ref a), some (.ref q), v2, v3, v4] ∧ Same H H' ∧ IsF K H' q (bestF ns i)) ⟨p, none, none, none, rfl, s1.trans s2, hp⟩ (fun _ _ _ _ _ => True.intro) ?_ ?_⟩
    · rintro i x σ H3 H4 hi ⟨q, v2, v3, v4, rfl, s3, hq⟩ ⟨rfl, z, hz, rfl⟩
      have hi : i < 5 := hi
      obtain rfl : nmOf i = z := by
        unfold nmOf
        rw [List.getD_eq_getElem?_getD, hz]
        rfl
      obtain ⟨fm, hh, hkd⟩ := M.all i hi
      refine ⟨_, rfl, d, nmOf i, _, rfl, rfl, hkd, ?_⟩
      refine ⟨fm, _, rfl, hh, _, rfl, a, ns, rfl, s3.seq hS, G, fun hn H5 s5 => ?_, fun F5 hF5 H5 p5 s5 hp5 => ?_⟩
      · refine ⟨_, rfl, rfl, _, rfl, ?_⟩
        refine ite2 (fun c => absurd c (by decide)) (fun _ => ?_)
        refine ite2 (fun c => absurd c (by decide)) (fun _ => ?_)
        refine ⟨q, _, _, _, rfl, s3.trans s5, ?_⟩
        show IsF K H5 q (match K3.mk i ns with | some F => if K3.room F < K3.room (bestF ns i) then F else bestF ns i | none => bestF ns i)
        rw [hn]
        exact hq.same s5
      · refine ⟨_, rfl, rfl, _, rfl, ?_⟩
        refine ite2 (fun _ => ?_) (fun c => absurd rfl c)
        refine ⟨_, rfl, p5, F5, rfl, hp5, _, rfl, q, bestF ns i, rfl, hq.same s5, _, _, rfl, rfl, _, rfl, ?_⟩
        have el : bestF ns (i + 1) = if K3.room F5 < K3.room (bestF ns i) then F5 else bestF ns i := by
          show (match K3.mk i ns with | some F => if K3.room F < K3.room (bestF ns i) then F else bestF ns i | none => bestF ns i) = _
          rw [hF5]
        refine ite2 (fun c => ?_) (fun c => ?_)
        · have c' : (K3.room F5 : Int) < (K3.room (bestF ns i) : Int) := of_decide_eq_true c
          refine ⟨_, rfl, p5, _, _, _, rfl, s3.trans s5, ?_⟩
          rw [el, if_pos (by omega)]
          exact hp5
        · have c' : ¬ (K3.room F5 : Int) < (K3.room (bestF ns i) : Int) := fun z => c (decide_eq_true z)
          refine ⟨q, _, _, _, rfl, s3.trans s5, ?_⟩
          rw [el, if_neg (by omega)]
          exact hq.same s5
    · rintro σ H' ⟨q, v2, v3, v4, rfl, s3, hq⟩
      exact ⟨_, rfl, k _ q s3 hq⟩
abbrev s__law_least : Stmt := top 56
abbrev N__law_least : List Str := ["_law_values_here", "_law_some", "_law_name", "_law_form_here", "_law_rooms_here"]
abbrev P__law_least : List Str := ["_law_values_here"]
theorem sc__law_least : FnScope N__law_least P__law_least (defScope s__law_least) := ⟨rfl, rfl, rfl, by decide +kernel, rfl, by decide +kernel, by decide +kernel⟩
def FormIs (K : PySem.W.Frag) (H : Hp) (x : V) (q : Nat × Form) : Prop := ∃ p, x = .ref p ∧ IsF K H p q.2
theorem formIs_keep {K : PySem.W.Frag} {H H' : Hp} {xs : List V} {l : List (Nat × Form)} (h : Paired (FormIs K H) xs l) (s : SameT H H') : Paired (FormIs K H') xs l := Paired.mapP h fun _ _ ⟨p, a, b⟩ => ⟨p, a, b.keep s⟩
/-- each of the five, or None -/
def FiveAt (K : PySem.W.Frag) (H : Hp) (ns : List Int) (acc : List V) : Prop := ∀ (i : Nat) (x : V), acc[i]? = some x → (K3.mk i ns = none ∧ x = .non) ∨ ∃ F p, K3.mk i ns = some F ∧ x = .ref p ∧ IsF K H p F
theorem FiveAt.keep {K : PySem.W.Frag} {H H' : Hp} {ns : List Int} {acc : List V} (h : FiveAt K H ns acc) (s : SameT H H') : FiveAt K H' ns acc := fun i x e => by
  rcases h i x e with z | ⟨F, p, a, b, c⟩
  · exact .inl z
  · exact .inr ⟨F, p, a, b, c.keep s⟩
theorem FiveAt.snoc {K : PySem.W.Frag} {H : Hp} {ns : List Int} {acc : List V} {y : V} (h : FiveAt K H ns acc) (hy : (K3.mk acc.length ns = none ∧ y = .non) ∨ ∃ F p, K3.mk acc.length ns = some F ∧ y = .ref p ∧ IsF K H p F) : FiveAt K H ns (acc ++ [y]) := fun i x e => by
  by_cases c : i < acc.length
  · rw [List.getElem?_append_left c] at e
    exact h i x e
  · rw [List.getElem?_append_right (by omega)] at e
    obtain ⟨hl, hx⟩ := List.getElem?_eq_some_iff.mp e
    have hl2 : i - acc.length < 1 := hl
    have e2 : i = acc.length := by omega
    subst e2
    simp at hx
    rw [← hx]
    exact hy
theorem ok_lleast (T : Txt mg) (D : Df K mg "_law_least" s__law_least P__law_least) (G__law_form : Fn P w K mg base CX0 4 "_law_form" P__law_form (spLf K)) (G__law_room : Fn P w K mg base CX0 4 "_law_room" P__law_room (spLroom K 3)) : Fn P w K mg base CX0 5 "_law_least" P__law_least (spBest K) := by
  refine D.ok sc__law_least (fun vs H Q E h => ?_) (fun f cdv A outer s H vs Q E hr h => ?_)
  · obtain ⟨a, ns, rfl, _⟩ := h
    rfl
  · obtain ⟨a, ns, rfl, hS, G, k⟩ := h
    have nd := sc__law_least.nd
    refine ⟨_, (pss_cons (ps_setLc (i := 1) (own := [("_law_name", 2)]) (g := gName 2) (by rfl) nd rfl rfl (sw_true rfl rfl rfl (by decide +kernel)) (pi_list (pe_lst (pa_cons pe_str (pa_cons pe_str (pa_cons pe_str (pa_cons pe_str (pa_cons pe_str pa_nil))))))) (blkOk_by (own := [("_law_name", 2)]) (N := N__law_least) (sc := defScope s__law_least) (by decide +kernel)) (fun _ _ _ _ _ => pg_name (i := 2) nd rfl (Or.inl rfl)) (fun _ _ _ _ _ => pts_nil) (fun _ _ _ _ _ => (pe_c G__law_form (hr.mono (by decide)) pass0 (pa_cons (pv 2) (pa_cons (pv 0) pa_nil)))))
  (pss_cons (ps_setLc (i := 1) (own := [("_law_form_here", 3)]) (g := gName 3) (by rfl) nd rfl rfl (sw_true rfl rfl rfl (by decide +kernel)) (pi_list (pv 1)) (blkOk_by (own := [("_law_form_here", 3)]) (N := N__law_least) (sc := defScope s__law_least) (by decide +kernel)) (fun _ _ _ _ _ => pg_name (i := 3) nd rfl (Or.inl rfl)) (fun _ _ _ _ _ => pts_one (pt_cmpR op_notN (pv 3) pe_non (nomark _))) (fun _ _ _ _ _ => (pv 3)))
  (pss_cons (ps_setLc (i := 4) (own := [("_law_form_here", 3)]) (g := gName 3) (by rfl) nd rfl rfl (sw_true rfl rfl rfl (by decide +kernel)) (pi_list (pv 1)) (blkOk_by (own := [("_law_form_here", 3)]) (N := N__law_least) (sc := defScope s__law_least) (by decide +kernel)) (fun _ _ _ _ _ => pg_name (i := 3) nd rfl (Or.inl rfl)) (fun _ _ _ _ _ => pts_nil) (fun _ _ _ _ _ => (pe_c G__law_room (hr.mono (by decide)) pass0 (pa_cons (pv 3) pa_nil))))
  (pss_one (ps_ret (pe_ix ix_list (pv 1) (pe_bm PySem.F.plainAttrs_list PySem.F.slot_list_index PySem.F.type_list_index mt_index (pv 4) (pa_cons (pe_callB (cr_min rfl) (by rfl) T.b_min (by decide +kernel) (pa_cons (pv 4) pa_nil)) pa_nil)) (fun _ _ => rfl))))))), ?_⟩
    refine ⟨(by show 5 ≤ sizeLine; decide), fun l nl => ?_⟩
    have sl := Same.upd (o := .lst [.str "plain", .str "one", .str "codes", .str "near", .str "steps"]) nl
    refine ⟨l, rfl, ⟨_, SqL.of upd_same⟩, fun D0 nD0 => ?_⟩
    refine lc_all (walk_list (xs := [.str "plain", .str "one", .str "codes", .str "near", .str "steps"])) (fun m H' => ∃ acc : List V, Same (upd H l (.lst [.str "plain", .str "one", .str "codes", .str "near", .str "steps"])) H' ∧ H' D0 = some (.lst acc) ∧ acc.length = m ∧ FiveAt K H' ns acc) ⟨[], Same.upd nD0, upd_same, rfl, fun i x e => (nomatch e)⟩ (fun _ _ _ ⟨_, h, _⟩ => SqL.of (h _ _ upd_same)) ?_ ?_
    · rintro m x H2 H2' hm ⟨acc, s2, hD, hl, F5⟩ ⟨rfl, e⟩
      have hm : m < 5 := hm
      obtain ⟨z, hz, rfl⟩ := map_at (f := V.str) (l := nms) e
      obtain rfl : nmOf m = z := by
        unfold nmOf
        rw [List.getD_eq_getElem?_getD, hz]
        rfl
      subst hl
      refine ⟨_, rfl, _, rfl, acc.length, a, ns, rfl, hm, (sl.trans s2).seq hS, G, fun hn H3 s3 => ?_, fun F hF H3 p s3 hp => ?_⟩
      · have e3 := s3 _ _ hD
        refine ⟨acc, e3, by rw [sizeLine_eq]; omega, acc ++ [.non], Same.put (s2.trans s3) nD0, upd_same, by rw [List.length_append]; rfl, ?_⟩
        exact ((F5.keep (.of s3)).keep (.lst e3)).snoc (.inl ⟨hn, rfl⟩)
      · have e3 := s3 _ _ hD
        refine ⟨acc, e3, by rw [sizeLine_eq]; omega, acc ++ [.ref p], Same.put (s2.trans s3) nD0, upd_same, by rw [List.length_append]; rfl, ?_⟩
        exact ((F5.keep (.of s3)).keep (.lst e3)).snoc (.inr ⟨F, p, hF, rfl, hp.keep (.lst e3)⟩)
    rintro H2 ⟨acc, s2, hD, hl, F5⟩
    have hl : acc.length = 5 := hl
    have sA := sl.trans s2
    refine ⟨_, rfl, D0, rfl, ⟨_, SqL.of hD⟩, fun D1 nD1 => ?_⟩
    refine lc_if (walk_list (xs := acc)) (fun m H' => ∃ acc2 : List V, Same H2 H' ∧ H' D1 = some (.lst acc2) ∧ Paired (FormIs K H') acc2 (made ns m)) ⟨[], Same.upd nD1, upd_same, .nil⟩ (fun _ _ _ ⟨_, h, _⟩ => SqL.of (h _ _ hD)) ?_ ?_
    · rintro m x H3 H3' hm ⟨acc2, s3, hD1, pr⟩ ⟨rfl, e⟩
      have hlen : acc2.length = (made ns m).length := Paired.length pr
      have hml := made_length (ns := ns) m
      refine ⟨_, rfl, rfl, _, rfl, ?_⟩
      rcases F5 m x e with ⟨hn, rfl⟩ | ⟨F, p, hF, rfl, hp⟩
      · refine ite2 (fun c => Bool.noConfusion (show false = true from c)) (fun _ => ⟨acc2, s3, hD1, ?_⟩)
        have em : made ns (m + 1) = made ns m := by
          show (match K3.mk m ns with | some F => made ns m ++ [(m, F)] | none => made ns m) = _
          rw [hn]
        rw [em]
        exact pr
      · refine ite2 (fun _ => ?_) (fun c => absurd rfl c)
        refine ⟨_, rfl, acc2, hD1, by rw [sizeLine_eq]; omega, acc2 ++ [.ref p], Same.put s3 nD1, upd_same, ?_⟩
        have em : made ns (m + 1) = made ns m ++ [(m, F)] := by
          show (match K3.mk m ns with | some F => made ns m ++ [(m, F)] | none => made ns m) = _
          rw [hF]
        rw [em]
        exact paired_snoc (formIs_keep pr (.lst hD1)) ⟨p, rfl, (hp.same s3).keep (.lst hD1)⟩
    rintro H3 ⟨acc2, s3, hD1, pr⟩
    rw [hl] at pr
    have hlen : acc2.length = (made ns 5).length := Paired.length pr
    refine ⟨_, rfl, D1, rfl, ⟨_, SqL.of hD1⟩, fun D2 nD2 => ?_⟩
    refine lc_all (walk_list (xs := acc2)) (fun m H' => Same H3 H' ∧ H' D2 = some (.lst (((roomsOf ns 5).take m).map V.int))) ⟨Same.upd nD2, upd_same⟩ (fun _ _ _ h => SqL.of (h.1 _ _ hD1)) ?_ ?_
    · rintro m x H4 H4' hm ⟨s4, hD2⟩ ⟨rfl, e⟩
      obtain ⟨q, hq, p, rfl, hp⟩ := paired_at pr e
      obtain ⟨q1, q2⟩ := made_in (j := q.1) (F := q.2) (List.mem_of_getElem? hq)
      have hr4 : (roomsOf ns 5)[m]? = some (K3.room q.2 : Int) := by
        unfold roomsOf
        rw [List.getElem?_map, hq]
        rfl
      refine ⟨_, rfl, .ref p, K3.room q.2, 2, rfl, by decide, (roomF hp (mk_ok G q2)).same s4, fun H5 s5 => ⟨_, s5 _ _ hD2, ?_, Same.put (s4.trans s5) nD2, ?_⟩⟩
      · have := roomsOf_length (ns := ns) 5
        rw [List.length_map, List.length_take, sizeLine_eq]
        omega
      · rw [upd_same, take_more hr4, List.map_append]
        rfl
    rintro H4 ⟨s4, hD2⟩
    have er : (roomsOf ns 5).length = (made ns 5).length := by
      unfold roomsOf
      rw [List.length_map]
    rw [hlen, ← er, List.take_length] at hD2
    obtain ⟨j, q, h1, h2, h3⟩ := bestF_at ns 4
    have h1 : (made ns 5)[j]? = some (q, bestF ns 5) := h1
    have h2 : ∀ (m : Nat) (q' : Nat × Form), (made ns 5)[m]? = some q' → K3.room (bestF ns 5) ≤ K3.room q'.2 := h2
    have h3 : ∀ (m : Nat) (q' : Nat × Form), m < j → (made ns 5)[m]? = some q' → K3.room (bestF ns 5) < K3.room q'.2 := h3
    have hj := (List.getElem?_eq_some_iff.mp h1).1
    have rj : (roomsOf ns 5)[j]? = some (K3.room (bestF ns 5) : Int) := by
      unfold roomsOf
      rw [List.getElem?_map, h1]
      rfl
    have xj : acc2[j]? = some (acc2[j]'(by omega)) := List.getElem?_eq_getElem (by omega)
    obtain ⟨q', hq', p, hp, hF⟩ := paired_at pr xj
    obtain rfl : (q, bestF ns 5) = q' := Option.some.inj (h1.symm.trans hq')
    rw [hp] at xj
    refine ⟨_, rfl, _, rfl, .inl ⟨rfl, _, SqL.of hD2⟩, _, rfl, D2, roomsOf ns 5, rfl, SqL.of hD2, by omega, fun m m1 m2 => ?_⟩
    have em : m = (K3.room (bestF ns 5) : Int) := by
      have a1 := m2 _ (List.mem_of_getElem? rj)
      obtain ⟨i0, hi0, rfl⟩ := List.mem_iff_getElem.mp m1
      have hi0' : (roomsOf ns 5)[i0]? = some (roomsOf ns 5)[i0] := List.getElem?_eq_getElem hi0
      have hm0 : (made ns 5)[i0]? = some ((made ns 5)[i0]'(by omega)) := List.getElem?_eq_getElem (by omega)
      have a2 := h2 i0 _ hm0
      have a3 : (roomsOf ns 5)[i0]? = some (K3.room ((made ns 5)[i0]'(by omega)).2 : Int) := by
        unfold roomsOf
        rw [List.getElem?_map, hm0]
        rfl
      rw [hi0'] at a3
      have a4 := Option.some.inj a3
      have a2 : K3.room (bestF ns 5) ≤ K3.room ((made ns 5)[i0]'(by omega)).2 := a2
      omega
    subst em
    refine ⟨D2, (roomsOf ns 5).map V.int, .int (K3.room (bestF ns 5) : Int), j, .int (K3.room (bestF ns 5) : Int), rfl, rfl, SqL.of hD2, rfl, flat_ints _, by rw [List.getElem?_map, rj]; rfl, beq_self_eq_true (K3.room (bestF ns 5) : Int), fun m' z' hm' hz' => ?_, ?_⟩
    · obtain ⟨y, hy, rfl⟩ := map_at hz'
      show (y == (K3.room (bestF ns 5) : Int)) = false
      refine beq_eq_false_iff_ne.mpr fun e => ?_
      have hl' := (List.getElem?_eq_some_iff.mp hy).1
      have hm0 : (made ns 5)[m']? = some ((made ns 5)[m']'(by omega)) := List.getElem?_eq_getElem (by omega)
      have a3 : (roomsOf ns 5)[m']? = some (K3.room ((made ns 5)[m']'(by omega)).2 : Int) := by
        unfold roomsOf
        rw [List.getElem?_map, hm0]
        rfl
      rw [hy] at a3
      have a4 := Option.some.inj a3
      have a5 : K3.room (bestF ns 5) < K3.room ((made ns 5)[m']'(by omega)).2 := h3 m' _ hm' hm0
      omega
    · exact ⟨D1, acc2, _, _, rfl, rfl, SqL.of (s4 _ _ hD1), atI_nat xj, k _ p (((sA.trans s3)).trans s4) (hF.same s4)⟩
end
end K3

set_option Elab.async false
set_option linter.all false
set_option maxRecDepth 100000
set_option maxHeartbeats 4000000
namespace K3
open PySem PySem.Spec PyProof.Rows L2
/-! ### min of a list of tuples (cells, stretches, ends) -/
abbrev C3 := PySem.W.T3 Int Int (List Int)
def c3D (t : C3) : PyData := PySem.W.Datum.toD t
/-- at v such a tuple -/
def CutV (K : PySem.W.Frag) (H : Hp) (v : V) (t : C3) : Prop := ∃ a e, v = .ref a ∧ SqT K H a [.int t.a, .int t.b, .ref e] ∧ H e = some (.lst (t.c.map V.int))
theorem dpAll_intsL {K : PySem.W.Frag} {H : Hp} : ∀ ns : List Int, DpAll K H (ns.map V.int) (ns.map PySem.W.Datum.toD)
  | [] => .nil
  | n :: r => .cons (.int n) (dpAll_intsL r)
theorem CutV.dp {K : PySem.W.Frag} {H : Hp} {v : V} {t : C3} (h : CutV K H v t) : Dp K H v (c3D t) := by
  obtain ⟨a, e, rfl, h1, h2⟩ := h
  exact .tup h1 (.cons (.int _) (.cons (.int _) (.cons (.lst (SqL.of h2) (dpAll_intsL _)) .nil)))
theorem c3_inj {a b : C3} (h : c3D a = c3D b) : a = b := by
  have e := PySem.W.Datum.eqv (α := C3) a b
  have e2 := PySem.W.Datum.eqv (α := C3) a a
  rw [decide_eq_true rfl] at e2
  have h' : PySem.W.Datum.toD a = PySem.W.Datum.toD b := h
  rw [← h', e2] at e
  exact of_decide_eq_true e.symm
theorem dpAll_cuts {K : PySem.W.Frag} {H : Hp} : ∀ {ys : List V} {ts : List C3}, Paired (CutV K H) ys ts → DpAll K H ys (ts.map c3D)
  | _, _, .nil => .nil
  | _, _, .cons h t => .cons h.dp (dpAll_cuts t)
def minC : List C3 → C3
  | [] => ⟨0, 0, []⟩
  | x :: xs => PySem.W.minOf x xs
def rMinC (K : PySem.W.Frag) : List V → Hp → VK → Prop := fun vs H Q => ∃ (p : Addr) (ys : List V) (ts : List C3), vs = [.ref p] ∧ SqL K H p ys ∧ Paired (CutV K H) ys ts ∧ ts ≠ [] ∧ ∀ y, CutV K H y (minC ts) → Q y H
theorem cr_minC {X : Cx} (hc : X.calm = true) (hu : X.A.units + 64 < cLine) : CallR X (.builtin "min") (rMinC X.K) := by
  intro pins s σ H vs us Q I r ⟨p, ys, ts, ev, hq, pr, hne, q⟩
  subst ev
  rw [Vals.ref1 r]
  obtain ⟨x, xs, rfl⟩ := List.exists_cons_of_ne_nil hne
  obtain ⟨its, rv, pl, hz⟩ := I.list hq
  obtain ⟨as, ra⟩ := Dp.readsAll I _ _ _ (dpAll_cuts pr) rv
  have hd : PySem.W.Datum.depth C3 ≤ 8 := by decide
  refine PySem.W.min_list_datum (x := x) (xs := xs) (I.ok.hd hc) pl.isList (vs := its.toArray) ⟨as, (show its.toArray.toList = its by simp).symm ▸ ra⟩ (by omega) fun i v h' tk hi hv hk => ?_
  have hi' : its[i]? = some v := by simpa using hi
  obtain ⟨y, hy, ry⟩ : ∃ y, ys[i]? = some y ∧ RelV y v := by
    obtain ⟨hl, hx⟩ := List.getElem?_eq_some_iff.mp hi'
    have e := Vals.length rv
    have hy : ys[i]? = some (ys[i]'(by omega)) := List.getElem?_eq_getElem (by omega)
    obtain ⟨z, hz2, rz⟩ := rv.get hy
    rw [hi'] at hz2
    cases hz2
    exact ⟨_, hy, rz⟩
  obtain ⟨t, ht, hC⟩ := paired_at pr hy
  obtain ⟨bs, rb⟩ := Dp.reads I _ _ _ hC.dp ry
  obtain ⟨cs, rc⟩ := hv
  have e := PySem.SeqAt.plain_unique _ _ _ _ _ (PySem.W.Datum.plain t) (Reads.keeps hk rb) rc
  obtain rfl := c3_inj e
  exact ⟨y, H, I.kept hk, ry, q y hC⟩
end K3

set_option Elab.async false
set_option linter.all false
set_option maxRecDepth 100000
set_option maxHeartbeats 4000000
namespace K3
open PySem PySem.Spec PyProof.Rows L2
/-- the stretch from i to j ahead of what follows -/
def cand (vs : List Int) (i j : Nat) (t : C3) : C3 := ⟨t.a + (room (bestF (seg vs i j) 5) : Int), t.b + 1, (j : Int) :: t.c⟩
/-- the least cut from i on -/
def bc (vs : List Int) (i : Nat) : C3 :=
  if h : i < vs.length then minC ((List.range (vs.length - i)).map fun k => cand vs i (i + 1 + k) (bc vs (i + 1 + k))) else ⟨0, 0, []⟩
termination_by vs.length - i
decreasing_by omega
theorem bc_end {vs : List Int} {i : Nat} (h : ¬ i < vs.length) : bc vs i = ⟨0, 0, []⟩ := by
  unfold bc
  rw [dif_neg h]
theorem bc_at {vs : List Int} {i : Nat} (h : i < vs.length) : bc vs i = minC ((List.range (vs.length - i)).map fun k => cand vs i (i + 1 + k) (bc vs (i + 1 + k))) := by
  conv => lhs; unfold bc
  rw [dif_pos h]
theorem minOf_mem : ∀ (xs : List C3) (x : C3), PySem.W.minOf x xs ∈ x :: xs
  | [], x => List.mem_cons_self ..
  | y :: r, x => by
    have e : PySem.W.minOf x (y :: r) = PySem.W.minOf (if PySem.W.DatumOrd.lt y x = true then y else x) r := rfl
    rw [e]
    have h := minOf_mem r (if PySem.W.DatumOrd.lt y x = true then y else x)
    rcases List.mem_cons.mp h with z | z
    · rw [z]
      split
      · exact List.mem_cons_of_mem _ (List.mem_cons_self ..)
      · exact List.mem_cons_self ..
    · exact List.mem_cons_of_mem _ (List.mem_cons_of_mem _ z)
theorem minC_mem {ts : List C3} (h : ts ≠ []) : minC ts ∈ ts := by
  obtain ⟨x, xs, rfl⟩ := List.exists_cons_of_ne_nil h
  exact minOf_mem xs x
theorem cands_ne {vs : List Int} {i : Nat} (h : i < vs.length) (f : Nat → C3) : ((List.range (vs.length - i)).map f) ≠ [] := fun z => by
  have := congrArg List.length z
  rw [List.length_map, List.length_range, List.length_nil] at this
  omega
theorem bc_len {vs : List Int} : ∀ (n i : Nat), vs.length - i ≤ n → (bc vs i).c.length ≤ vs.length - i
  | n, i, hn => by
    by_cases h : i < vs.length
    · rw [bc_at h]
      obtain ⟨k, hk, e⟩ := List.mem_map.mp (minC_mem (cands_ne h fun k => cand vs i (i + 1 + k) (bc vs (i + 1 + k))))
      have hk := List.mem_range.mp hk
      rw [← e]
      cases n with
      | zero => omega
      | succ n =>
        have ih := bc_len (vs := vs) n (i + 1 + k) (by omega)
        show (bc vs (i + 1 + k)).c.length + 1 ≤ vs.length - i
        omega
    · rw [bc_end h]
      exact Nat.zero_le _
theorem bestF_ok {ns : List Int} (G : Good ns) : FOk (bestF ns 5) := by
  obtain ⟨j, q, h1, _⟩ := bestF_at ns 4
  have h1 : (made ns 5)[j]? = some (q, bestF ns 5) := h1
  exact mk_ok G (made_in (List.mem_of_getElem? h1)).2
theorem good_seg {ns : List Int} (G : Good ns) {i j : Nat} (h : i < j) (hj : j ≤ ns.length) : Good (seg ns i j) := by
  have := G.few
  refine ⟨seg_ne hj h, by rw [seg_length hj]; omega, fun y hy => G.inn y (List.mem_of_mem_drop (List.mem_of_mem_take hy))⟩
theorem CutV.same {K : PySem.W.Frag} {H H' : Hp} {v : V} {t : C3} (h : CutV K H v t) (s : Same H H') : CutV K H' v t := by
  obtain ⟨a, e, rfl, h1, h2⟩ := h
  exact ⟨a, e, rfl, s.seqT h1, s _ _ h2⟩
theorem CutV.dct {K : PySem.W.Frag} {H : Hp} {d : Addr} {kvs kvs' : List (Key × V)} {v : V} {t : C3} (h : CutV K H v t) (hd : H d = some (.dK kvs)) : CutV K (upd H d (.dK kvs')) v t := by
  obtain ⟨a, e, rfl, h1, h2⟩ := h
  refine ⟨a, e, rfl, (SameT.dct hd).seqT h1, ?_⟩
  rw [upd_ne (ne_of h2 hd (by intro z; cases z))]
  exact h2
/-- .. its list of ends apart from l -/
def CutN (K : PySem.W.Frag) (H : Hp) (l : Addr) (v : V) (t : C3) : Prop := ∃ a e, v = .ref a ∧ SqT K H a [.int t.a, .int t.b, .ref e] ∧ H e = some (.lst (t.c.map V.int)) ∧ e ≠ l
theorem CutN.cut {K : PySem.W.Frag} {H : Hp} {l : Addr} {v : V} {t : C3} (h : CutN K H l v t) : CutV K H v t := by
  obtain ⟨a, e, h0, h1, h2, _⟩ := h
  exact ⟨a, e, h0, h1, h2⟩
theorem CutN.same {K : PySem.W.Frag} {H H' : Hp} {l : Addr} {v : V} {t : C3} (h : CutN K H l v t) (s : Same H H') : CutN K H' l v t := by
  obtain ⟨a, e, rfl, h1, h2, h3⟩ := h
  exact ⟨a, e, rfl, s.seqT h1, s _ _ h2, h3⟩
theorem CutN.put {K : PySem.W.Frag} {H : Hp} {l : Addr} {xs ys : List V} {v : V} {t : C3} (h : CutN K H l v t) (hl : H l = some (.lst xs)) : CutN K (upd H l (.lst ys)) l v t := by
  obtain ⟨a, e, rfl, h1, h2, h3⟩ := h
  exact ⟨a, e, rfl, (SameT.lst hl).seqT h1, (upd_ne h3).trans h2, h3⟩
section
variable {P : Program} {w : World} {K : PySem.W.Frag} {mg : Str → Option Value} {base : Heap}
def spLcut (K : PySem.W.Frag) : Sp := fun vs H Q _ => ∃ (a : Addr) (ns : List Int), vs = [.ref a] ∧ SqL K H a (ns.map V.int) ∧ Good ns ∧
  ∀ (H' : Hp) (x : V), Same H H' → CutV K H' x (bc ns 0) → Q x H'
end
end K3

set_option Elab.async false
set_option linter.all false
set_option maxRecDepth 100000
set_option maxHeartbeats 4000000
namespace K3
open PySem PySem.Spec PyProof.Rows L2
/-! ### the least cut's forms -/
def formsOf (vs : List Int) (b : Nat) : List Int → List Form
  | [] => []
  | e :: r => bestF (seg vs b e.toNat) 5 :: formsOf vs e.toNat r
def lastE (b : Nat) : List Int → Nat
  | [] => b
  | e :: r => lastE e.toNat r
theorem formsOf_snoc {vs : List Int} {e : Int} : ∀ (xs : List Int) (b : Nat), formsOf vs b (xs ++ [e]) = formsOf vs b xs ++ [bestF (seg vs (lastE b xs) e.toNat) 5]
  | [], _ => rfl
  | x :: r, b => by
    show bestF (seg vs b x.toNat) 5 :: formsOf vs x.toNat (r ++ [e]) = _
    rw [formsOf_snoc r x.toNat]
    rfl
theorem lastE_snoc {e : Int} : ∀ (xs : List Int) (b : Nat), lastE b (xs ++ [e]) = e.toNat
  | [], _ => rfl
  | x :: r, b => lastE_snoc r x.toNat
/-- ends that rise from b, to n at most -/
def Ends (n : Nat) (b : Nat) : List Int → Prop
  | [] => True
  | e :: r => (∃ j : Nat, e = (j : Int) ∧ b < j ∧ j ≤ n) ∧ Ends n e.toNat r
theorem bc_ends {vs : List Int} : ∀ (n i : Nat), vs.length - i ≤ n → Ends vs.length i (bc vs i).c
  | n, i, hn => by
    by_cases h : i < vs.length
    · rw [bc_at h]
      obtain ⟨k, hk, e⟩ := List.mem_map.mp (minC_mem (cands_ne h fun k => cand vs i (i + 1 + k) (bc vs (i + 1 + k))))
      have hk := List.mem_range.mp hk
      rw [← e]
      cases n with
      | zero => omega
      | succ n =>
        have ih := bc_ends (vs := vs) n (i + 1 + k) (by omega)
        exact ⟨⟨i + 1 + k, rfl, by omega, by omega⟩, ih⟩
    · rw [bc_end h]
      exact True.intro
theorem bc_ne {vs : List Int} {i : Nat} (h : i < vs.length) : (bc vs i).c ≠ [] := by
  rw [bc_at h]
  obtain ⟨k, hk, e⟩ := List.mem_map.mp (minC_mem (cands_ne h fun k => cand vs i (i + 1 + k) (bc vs (i + 1 + k))))
  rw [← e]
  exact List.cons_ne_nil _ _
theorem formsOf_length {vs : List Int} : ∀ (xs : List Int) (b : Nat), (formsOf vs b xs).length = xs.length
  | [], _ => rfl
  | x :: r, b => congrArg (· + 1) (formsOf_length r x.toNat)
def cutForms (vs : List Int) : List Form := formsOf vs 0 (bc vs 0).c
def FormP (K : PySem.W.Frag) (H : Hp) (x : V) (F : Form) : Prop := ∃ q, x = .ref q ∧ IsF K H q F ∧ FOk F
theorem formP_keep {K : PySem.W.Frag} {H H' : Hp} {ps : List V} {Fs : List Form} (h : Paired (FormP K H) ps Fs) (s : SameT H H') : Paired (FormP K H') ps Fs := Paired.mapP h fun _ _ ⟨q, a, b, c⟩ => ⟨q, a, b.keep s, c⟩
/-- the fewest cells up to each place -/
def Prices (ns : List Int) (cs : List Int) : Prop := cs.length = ns.length + 1 ∧ ∀ k, k ≤ ns.length → ∃ m : Nat, cs[k]? = some (m : Int) ∧ Fewest (ns.take k) m
theorem Prices.eq {ns cs ds : List Int} (a : Prices ns cs) (b : Prices ns ds) : cs = ds := by
  refine List.ext_getElem? fun i => ?_
  by_cases h : i ≤ ns.length
  · obtain ⟨m, h1, h2⟩ := a.2 i h
    obtain ⟨n, h3, h4⟩ := b.2 i h
    rw [h1, h3, h2.eq h4]
  · rw [List.getElem?_eq_none (by have := a.1; omega), List.getElem?_eq_none (by have := b.1; omega)]
section
variable {P : Program} {w : World} {K : PySem.W.Frag} {mg : Str → Option Value} {base : Heap}
def spLforms (K : PySem.W.Frag) : Sp := fun vs H Q _ => ∃ (a : Addr) (ns : List Int), vs = [.ref a] ∧ SqL K H a (ns.map V.int) ∧ Good ns ∧
  ∀ (H' : Hp) (p : Addr) (ps : List V), Same H H' → H p = none → H' p = some (.lst ps) → Paired (FormP K H') ps (cutForms ns) → Q (.ref p) H'
def spLcosts (K : PySem.W.Frag) : Sp := fun vs H Q _ => ∃ (a : Addr) (ns : List Int), vs = [.ref a] ∧ SqL K H a (ns.map V.int) ∧ Good ns ∧
  ∀ (H' : Hp) (p : Addr) (cs : List Int), Same H H' → H p = none → H' p = some (.lst (cs.map V.int)) → Prices ns cs → Q (.ref p) H'
end
end K3

set_option linter.all false
/-! K4K: the least cut has the values and the fewest cells -/
namespace K3
theorem lt_c3 {y x : C3} (h : PySem.W.DatumOrd.lt y x = true) : y.a ≤ x.a := by
  have e : PySem.W.DatumOrd.lt y x = (if y.a = x.a then (if y.b = x.b then PySem.W.DatumOrd.lt y.c x.c else PySem.W.DatumOrd.lt y.b x.b) else PySem.W.DatumOrd.lt y.a x.a) := rfl
  rw [e] at h
  by_cases c : y.a = x.a
  · omega
  · rw [if_neg c] at h
    have h : decide (y.a < x.a) = true := h
    have := of_decide_eq_true h
    omega
theorem nlt_c3 {y x : C3} (h : ¬ PySem.W.DatumOrd.lt y x = true) : x.a ≤ y.a := by
  have e : PySem.W.DatumOrd.lt y x = (if y.a = x.a then (if y.b = x.b then PySem.W.DatumOrd.lt y.c x.c else PySem.W.DatumOrd.lt y.b x.b) else PySem.W.DatumOrd.lt y.a x.a) := rfl
  rw [e] at h
  by_cases c : y.a = x.a
  · omega
  · rw [if_neg c] at h
    have h : ¬ decide (y.a < x.a) = true := h
    have : ¬ y.a < x.a := fun z => h (decide_eq_true z)
    omega
theorem minOf_le : ∀ (xs : List C3) (x : C3), ∀ t ∈ x :: xs, (PySem.W.minOf x xs).a ≤ t.a
  | [], x, t, h => by
    rw [List.mem_singleton.mp h]
    exact Int.le_refl _
  | y :: r, x, t, h => by
    have e : PySem.W.minOf x (y :: r) = PySem.W.minOf (if PySem.W.DatumOrd.lt y x = true then y else x) r := rfl
    rw [e]
    have ih := minOf_le r (if PySem.W.DatumOrd.lt y x = true then y else x)
    have h0 := ih _ (List.mem_cons_self ..)
    by_cases c : PySem.W.DatumOrd.lt y x = true
    · rw [if_pos c] at ih h0 ⊢
      have := lt_c3 c
      rcases List.mem_cons.mp h with rfl | h
      · omega
      · exact ih t h
    · rw [if_neg c] at ih h0 ⊢
      have := nlt_c3 c
      rcases List.mem_cons.mp h with rfl | h
      · exact h0
      · rcases List.mem_cons.mp h with rfl | h
        · omega
        · exact ih t (List.mem_cons_of_mem _ h)
theorem minC_le {ts : List C3} {t : C3} (h : t ∈ ts) : (minC ts).a ≤ t.a := by
  cases ts with
  | nil => cases h
  | cons x xs => exact minOf_le xs x t h
/-- the least cut from i on has the fewest cells -/
theorem bc_fewest {vs : List Int} : ∀ (n i : Nat), vs.length - i ≤ n → i ≤ vs.length → ∃ m : Nat, (bc vs i).a = (m : Int) ∧ Fewest (vs.drop i) m
  | n, i, hn, hi => by
    by_cases h : i < vs.length
    · cases n with
      | zero => omega
      | succ n =>
        have ih : ∀ j, i < j → j ≤ vs.length → (bc vs j).a = ((bc vs j).a.toNat : Int) ∧ Fewest (vs.drop j) (bc vs j).a.toNat := fun j h1 h2 => by
          obtain ⟨m, e, f⟩ := bc_fewest n j (by omega) h2
          rw [e, Int.toNat_natCast]
          exact ⟨rfl, f⟩
        obtain ⟨k, hk, e⟩ := List.mem_map.mp (minC_mem (cands_ne h fun k => cand vs i (i + 1 + k) (bc vs (i + 1 + k))))
        have hk := List.mem_range.mp hk
        obtain ⟨e1, f1⟩ := ih (i + 1 + k) (by omega) (by omega)
        have ea : (bc vs i).a = (bc vs (i + 1 + k)).a + (room (bestF (seg vs i (i + 1 + k)) 5) : Int) := by
          rw [bc_at h, ← e]
          rfl
        rw [bestF_room] at ea
        refine ⟨lr (seg vs i (i + 1 + k)) 5 + (bc vs (i + 1 + k)).a.toNat, by omega, ?_⟩
        refine fewest_prev h (g := fun j => (bc vs j).a.toNat) (fun j h1 h2 => (ih j h1 h2).2) ⟨i + 1 + k, by omega, by omega, rfl⟩ fun j h1 h2 => ?_
        have hl := minC_le (ts := (List.range (vs.length - i)).map fun k => cand vs i (i + 1 + k) (bc vs (i + 1 + k))) (List.mem_map.mpr ⟨j - (i + 1), List.mem_range.mpr (by omega), rfl⟩)
        rw [← bc_at h, ea] at hl
        have ej : i + 1 + (j - (i + 1)) = j := by omega
        rw [ej] at hl
        have hl : (bc vs (i + 1 + k)).a + (lr (seg vs i (i + 1 + k)) 5 : Int) ≤ (bc vs j).a + (room (bestF (seg vs i j) 5) : Int) := hl
        rw [bestF_room] at hl
        have := (ih j h1 h2).1
        show lr (seg vs i (i + 1 + k)) 5 + (bc vs (i + 1 + k)).a.toNat ≤ lr (seg vs i j) 5 + (bc vs j).a.toNat
        omega
    · obtain rfl : i = vs.length := by omega
      rw [bc_end h]
      exact ⟨0, rfl, fewest_end⟩
/-- its forms have as many cells as it tells -/
theorem bc_rooms {vs : List Int} : ∀ (n i : Nat), vs.length - i ≤ n → (((formsOf vs i (bc vs i).c).map room).sum : Int) = (bc vs i).a
  | n, i, hn => by
    by_cases h : i < vs.length
    · cases n with
      | zero => omega
      | succ n =>
        obtain ⟨k, hk, e⟩ := List.mem_map.mp (minC_mem (cands_ne h fun k => cand vs i (i + 1 + k) (bc vs (i + 1 + k))))
        have hk := List.mem_range.mp hk
        have ih := bc_rooms (vs := vs) n (i + 1 + k) (by omega)
        rw [bc_at h, ← e]
        show (((bestF (seg vs i (i + 1 + k)) 5 :: formsOf vs (i + 1 + k) (bc vs (i + 1 + k)).c).map room).sum : Int) = (bc vs (i + 1 + k)).a + (room (bestF (seg vs i (i + 1 + k)) 5) : Int)
        rw [List.map_cons, List.sum_cons, Int.natCast_add, ih]
        omega
    · rw [bc_end h]
      rfl
theorem bestF_read {ns : List Int} (G : Good ns) : readF (bestF ns 5) = ns := by
  obtain ⟨j, q, h1, _⟩ := bestF_at ns 4
  have h1 : (made ns 5)[j]? = some (q, bestF ns 5) := h1
  exact mk_read G.ne G.few (made_in (List.mem_of_getElem? h1)).2
/-- .. and the values -/
theorem bc_values {vs : List Int} (G : Good vs) : ∀ (n i : Nat), vs.length - i ≤ n → (formsOf vs i (bc vs i).c).flatMap readF = vs.drop i
  | n, i, hn => by
    by_cases h : i < vs.length
    · cases n with
      | zero => omega
      | succ n =>
        obtain ⟨k, hk, e⟩ := List.mem_map.mp (minC_mem (cands_ne h fun k => cand vs i (i + 1 + k) (bc vs (i + 1 + k))))
        have hk := List.mem_range.mp hk
        have ih := bc_values G n (i + 1 + k) (by omega)
        rw [bc_at h, ← e]
        show (bestF (seg vs i (i + 1 + k)) 5 :: formsOf vs (i + 1 + k) (bc vs (i + 1 + k)).c).flatMap readF = vs.drop i
        rw [List.flatMap_cons, ih, bestF_read (good_seg G (by omega) (by omega)), seg_drop (by omega)]
    · rw [bc_end h, List.drop_eq_nil_of_le (by omega)]
      rfl
/-- the told cut is one with the fewest cells -/
theorem cut_fewest {vs : List Int} (G : Good vs) : (cutForms vs).length ≤ 32 ∧ (cutForms vs).flatMap readF = vs ∧ Fewest vs ((cutForms vs).map room).sum := by
  refine ⟨?_, bc_values G _ 0 (Nat.le_refl _), ?_⟩
  · have h1 := bc_len (vs := vs) _ 0 (Nat.le_refl _)
    have h2 := G.few
    unfold cutForms
    rw [formsOf_length]
    omega
  · obtain ⟨m, e, f⟩ := bc_fewest (vs := vs) _ 0 (Nat.le_refl _) (Nat.zero_le _)
    have h := bc_rooms (vs := vs) _ 0 (Nat.le_refl _)
    rw [e] at h
    have h' : ((cutForms vs).map room).sum = m := by
      have : (((cutForms vs).map room).sum : Int) = (m : Int) := h
      omega
    rw [h']
    exact f
end K3

set_option Elab.async false
set_option linter.all false
set_option maxRecDepth 100000
set_option maxHeartbeats 4000000
/-! KD: the program's cutting, its cells -/
namespace K3
open PySem PySem.Spec PyProof.Rows L2
structure TxtC (mg : Str → Option Value) : Prop where
  c_FURTHEST : ∃ t, mg "FURTHEST" = some (.int 19998 t)
/-- at x a pair of an end and cells -/
def PairAt (K : PySem.W.Frag) (H : Hp) (x : V) (q : Nat × Nat) : Prop := ∃ p, x = .ref p ∧ SqT K H p [.int (q.1 : Int), .int (q.2 : Int)]
theorem pairs_keep {K : PySem.W.Frag} {H H' : Hp} {ps : List V} {l : List (Nat × Nat)} (h : Paired (PairAt K H) ps l) (s : SameT H H') : Paired (PairAt K H') ps l := Paired.mapP h fun _ _ ⟨p, a, b⟩ => ⟨p, a, s.seqT b⟩
def roomsL (ns : List Int) (i m : Nat) : List (Nat × Nat) := (List.range m).map fun k => (i + 1 + k, lr (seg ns i (i + 1 + k)) 5)
theorem roomsL_at {ns : List Int} {i m k : Nat} (h : k < m) : (roomsL ns i m)[k]? = some (i + 1 + k, lr (seg ns i (i + 1 + k)) 5) := by
  unfold roomsL
  rw [List.getElem?_map, List.getElem?_range h]
  rfl
theorem roomsL_length {ns : List Int} {i m : Nat} : (roomsL ns i m).length = m := by
  unfold roomsL
  rw [List.length_map, List.length_range]
theorem SameT.setO {w : World} {H : Hp} {p q : Addr} {o : HO} {S : Int → Bool} {n : Nat} (e : H p = some (SetO w q S n)) : SameT H (L2.upd H p o) := .upd e (fun _ z => by cases z) (fun _ _ z => by cases z)
theorem snoc_fun (g : List Int) (x : Int) : (fun j => decide (j ∈ g) || decide (j = x)) = fun j => decide (j ∈ g ++ [x]) := by
  funext j
  by_cases h1 : j ∈ g <;> by_cases h2 : j = x <;> simp [h1, h2]
section
variable {P : Program} {w : World} {K : PySem.W.Frag} {mg : Str → Option Value} {base : Heap}
abbrev s_packed_cells : Stmt := top 43
abbrev N_packed_cells : List Str := ["base", "many", "each"]
abbrev P_packed_cells : List Str := ["base", "many"]
theorem sc_packed_cells : FnScope N_packed_cells P_packed_cells (defScope s_packed_cells) := ⟨rfl, rfl, rfl, by decide +kernel, rfl, by decide +kernel, by decide +kernel⟩
def spPcells : Sp := fun vs H Q _ => ∃ (b : Int) (n : Nat), vs = [.int b, .int (n : Int)] ∧ 1 ≤ b ∧ b ≤ 10000 ∧ n ≤ 1000 ∧ Q (.int (pcells b n : Int)) H
theorem ok_packed_cells (T : Txt mg) (D : Df K mg "packed_cells" s_packed_cells P_packed_cells) (G_per_cell : Fn P w K mg base CX0 1 "per_cell" P_per_cell spPer) : Fn P w K mg base CX0 2 "packed_cells" P_packed_cells spPcells := by
  refine D.ok sc_packed_cells (fun vs H Q E h => ?_) (fun f cdv A outer s H vs Q E hr h => ?_)
  · obtain ⟨b, n, rfl, _⟩ := h
    rfl
  · obtain ⟨b, n, rfl, h1, h2, hn, k⟩ := h
    have nd := sc_packed_cells.nd
    refine ⟨_, (pss_cons (ps_if (pt_cmpR op_eq (pv 0) pe_int (nomark _))
  (pss_one (ps_ret pe_int))
  pss_nil)
  (pss_cons (ps_set (i := 2) nd rfl (by first | exact Or.inl rfl | exact Or.inr rfl) (pe_c G_per_cell (hr.mono (by decide)) pass0 (pa_cons (pv 0) pa_nil)))
  (pss_one (ps_ret (pe_op op_fdiv (pe_op op_sub (pe_op op_add (pv 1) (pv 2)) pe_int) (pv 2)))))), ?_⟩
    refine ⟨_, rfl, rfl, _, rfl, ?_⟩
    refine ite2 (fun c => ?_) (fun c => ?_)
    · have c' : b = 1 := V.int.inj (of_decide_eq_true c)
      unfold pcells at k
      rw [if_pos c'] at k
      exact k
    · have c' : ¬ b = 1 := fun z => c (decide_eq_true (congrArg V.int z))
      have hk := perC_pos h2
      have hkl := perC_le b
      refine ⟨_, rfl, b, rfl, by omega, h2, ?_⟩
      refine ⟨_, rfl, _, rfl, _, _, rfl, rfl, _, _, rfl, rfl, _, rfl, _, _, rfl, rfl, ⟨by omega, by omega⟩, ?_⟩
      unfold pcells at k
      rw [if_neg c'] at k
      have e : ((n : Int) + (perC b : Int) - 1) / (perC b : Int) = (cells (perC b) n : Int) := by
        unfold cells
        rw [Int.natCast_ediv]
        congr 1
        omega
      show Q (.int (((n : Int) + (perC b : Int) - 1) / (perC b : Int))) H
      rw [e]
      exact k
abbrev s_fewest_cells : Stmt := top 42
abbrev N_fewest_cells : List Str := ["many", "unlike", "span", "step_span", "plain", "cells"]
abbrev P_fewest_cells : List Str := ["many", "unlike", "span", "step_span"]
theorem sc_fewest_cells : FnScope N_fewest_cells P_fewest_cells (defScope s_fewest_cells) := ⟨rfl, rfl, rfl, by decide +kernel, rfl, by decide +kernel, by decide +kernel⟩
def spFcells : Sp := fun vs H Q _ => ∃ (n u : Nat) (s t : Int), vs = [.int (n : Int), .int (u : Int), .int s, .int t] ∧ 1 ≤ n ∧ n ≤ 32 ∧ 1 ≤ u ∧ u ≤ 32 ∧ 0 ≤ s ∧ (u ≠ 1 → 0 ≤ t) ∧ Q (.int (fcells n u s t : Int)) H
theorem ok_fewest_cells (T : Txt mg) (D : Df K mg "fewest_cells" s_fewest_cells P_fewest_cells) (G_packed_cells : Fn P w K mg base CX0 2 "packed_cells" P_packed_cells spPcells) : Fn P w K mg base CX0 3 "fewest_cells" P_fewest_cells spFcells := by
  refine D.ok sc_fewest_cells (fun vs H Q E h => ?_) (fun f cdv A outer s H vs Q E hr h => ?_)
  · obtain ⟨n, u, s, t, rfl, _⟩ := h
    rfl
  · obtain ⟨n, u, sp, t, rfl, n1, n2, u1, u2, h0, ht, k⟩ := h
    have nd := sc_fewest_cells.nd
    refine ⟨_, (pss_cons (ps_set (i := 4) nd rfl (by first | exact Or.inl rfl | exact Or.inr rfl) (pe_op op_add pe_int (pv 0)))
  (pss_cons (ps_if (pt_cmpR op_eq (pv 1) pe_int (nomark _))
  (pss_one (ps_ret (pe_callB (call_min2 rfl) (by rfl) T.b_min (by decide +kernel) (pa_cons (pv 4) (pa_cons pe_int pa_nil)))))
  pss_nil)
  (pss_cons (ps_set (i := 5) nd rfl (by first | exact Or.inl rfl | exact Or.inr rfl) (pe_callB (call_min2 rfl) (by rfl) T.b_min (by decide +kernel) (pa_cons (pv 4) (pa_cons (pe_op op_add (pe_op op_add pe_int (pv 1)) (pe_c G_packed_cells (hr.mono (by decide)) pass0 (pa_cons (pv 1) (pa_cons (pv 0) pa_nil)))) pa_nil))))
  (pss_cons (ps_if (pt_cmpR op_le (pv 2) (pe_gint T.c_MOST) (nomark _))
  (pss_one (ps_set (i := 5) nd rfl (by first | exact Or.inl rfl | exact Or.inr rfl) (pe_callB (call_min2 rfl) (by rfl) T.b_min (by decide +kernel) (pa_cons (pv 5) (pa_cons (pe_op op_add pe_int (pe_c G_packed_cells (hr.mono (by decide)) pass0 (pa_cons (pe_op op_add (pv 2) pe_int) (pa_cons (pv 0) pa_nil)))) pa_nil)))))
  pss_nil)
  (pss_cons (ps_if (pt_cmpR op_le (pv 3) (pe_gint T.c_MOST) (nomark _))
  (pss_one (ps_set (i := 5) nd rfl (by first | exact Or.inl rfl | exact Or.inr rfl) (pe_callB (call_min2 rfl) (by rfl) T.b_min (by decide +kernel) (pa_cons (pv 5) (pa_cons (pe_op op_add pe_int (pe_c G_packed_cells (hr.mono (by decide)) pass0 (pa_cons (pe_op op_add (pv 3) pe_int) (pa_cons (pe_op op_sub (pv 0) pe_int) pa_nil)))) pa_nil)))))
  pss_nil)
  (pss_one (ps_ret (pv 5)))))))), ?_⟩
    refine ⟨_, rfl, _, _, rfl, rfl, ?_⟩
    refine ⟨_, rfl, rfl, _, rfl, ?_⟩
    refine ite2 (fun c => ?_) (fun c => ?_)
    · have c' : (u : Int) = 1 := V.int.inj (of_decide_eq_true c)
      refine ⟨_, rfl, _, _, rfl, ?_⟩
      have e : (if (3 : Int) < 1 + (n : Int) then (3 : Int) else 1 + (n : Int)) = (fcells n u sp t : Int) := by
        have e2 : fcells n u sp t = min (1 + n) 3 := by
          unfold fcells
          exact if_pos (by omega)
        rw [e2]
        split <;> omega
      rw [e]
      exact k
    · have c' : ¬ (u : Int) = 1 := fun z => c (decide_eq_true (congrArg V.int z))
      have ht := ht (by omega)
      have ef : fcells n u sp t = (if t ≤ 9999 then min (if sp ≤ 9999 then min (min (1 + n) (2 + u + pcells u n)) (4 + pcells (sp + 1) n) else min (1 + n) (2 + u + pcells u n)) (5 + pcells (t + 1) (n - 1)) else if sp ≤ 9999 then min (min (1 + n) (2 + u + pcells u n)) (4 + pcells (sp + 1) n) else min (1 + n) (2 + u + pcells u n)) := by
        unfold fcells
        rw [if_neg (by omega)]
      refine ⟨_, rfl, _, rfl, _, _, rfl, rfl, _, rfl, _, rfl, u, n, rfl, by omega, by omega, by omega, _, _, rfl, rfl, _, _, rfl, ?_⟩
      have e1 : (if (2 : Int) + (u : Int) + (pcells u n : Int) < 1 + (n : Int) then (2 : Int) + (u : Int) + (pcells u n : Int) else 1 + (n : Int)) = ((min (1 + n) (2 + u + pcells u n) : Nat) : Int) := by
        split <;> omega
      rw [e1]
      have tail : ∀ c : Nat, c = (if sp ≤ 9999 then min (min (1 + n) (2 + u + pcells u n)) (4 + pcells (sp + 1) n) else min (1 + n) (2 + u + pcells u n)) → fcells n u sp t = if t ≤ 9999 then min c (5 + pcells (t + 1) (n - 1)) else c := fun c hc => by rw [ef, hc]
      refine ⟨_, rfl, _, _, rfl, rfl, _, rfl, ?_⟩
      refine ite2 (fun c2 => ?_) (fun c2 => ?_)
      · have c2' : sp ≤ 9999 := of_decide_eq_true c2
        refine ⟨_, rfl, _, rfl, _, _, rfl, rfl, _, rfl, sp + 1, n, rfl, by omega, by omega, by omega, _, _, rfl, rfl, _, _, rfl, ?_⟩
        have e2 : (if (4 : Int) + (pcells (sp + 1) n : Int) < ((min (1 + n) (2 + u + pcells u n) : Nat) : Int) then (4 : Int) + (pcells (sp + 1) n : Int) else ((min (1 + n) (2 + u + pcells u n) : Nat) : Int)) = ((min (min (1 + n) (2 + u + pcells u n)) (4 + pcells (sp + 1) n) : Nat) : Int) := by
          split <;> omega
        rw [e2]
        have ef := tail _ (by rw [if_pos c2'])
        generalize min (min (1 + n) (2 + u + pcells u n)) (4 + pcells (sp + 1) n) = B at *
        refine ⟨_, rfl, _, _, rfl, rfl, _, rfl, ?_⟩
        refine ite2 (fun c3 => ?_) (fun c3 => ?_)
        · have c3' : t ≤ 9999 := of_decide_eq_true c3
          refine ⟨_, rfl, _, rfl, _, _, rfl, rfl, _, rfl, _, _, rfl, rfl, t + 1, n - 1, by show [V.int (t + 1), V.int ((n : Int) - 1)] = _; rw [show (n : Int) - 1 = ((n - 1 : Nat) : Int) by omega], by omega, by omega, by omega, _, _, rfl, rfl, _, _, rfl, ?_⟩
          refine ⟨_, rfl, ?_⟩
          have e3 : (if (5 : Int) + (pcells (t + 1) (n - 1) : Int) < (B : Int) then (5 : Int) + (pcells (t + 1) (n - 1) : Int) else (B : Int)) = (fcells n u sp t : Int) := by
            rw [ef, if_pos c3']
            split <;> omega
          rw [e3]
          exact k
        · have c3' : ¬ t ≤ 9999 := fun z => c3 (decide_eq_true z)
          rw [if_neg c3'] at ef
          refine ⟨_, rfl, ?_⟩
          rw [ef] at k
          exact k
      · have c2' : ¬ sp ≤ 9999 := fun z => c2 (decide_eq_true z)
        have ef := tail _ (by rw [if_neg c2'])
        generalize min (1 + n) (2 + u + pcells u n) = B at *
        refine ⟨_, rfl, _, _, rfl, rfl, _, rfl, ?_⟩
        refine ite2 (fun c3 => ?_) (fun c3 => ?_)
        · have c3' : t ≤ 9999 := of_decide_eq_true c3
          refine ⟨_, rfl, _, rfl, _, _, rfl, rfl, _, rfl, _, _, rfl, rfl, t + 1, n - 1, by show [V.int (t + 1), V.int ((n : Int) - 1)] = _; rw [show (n : Int) - 1 = ((n - 1 : Nat) : Int) by omega], by omega, by omega, by omega, _, _, rfl, rfl, _, _, rfl, ?_⟩
          refine ⟨_, rfl, ?_⟩
          have e3 : (if (5 : Int) + (pcells (t + 1) (n - 1) : Int) < (B : Int) then (5 : Int) + (pcells (t + 1) (n - 1) : Int) else (B : Int)) = (fcells n u sp t : Int) := by
            rw [ef, if_pos c3']
            split <;> omega
          rw [e3]
          exact k
        · have c3' : ¬ t ≤ 9999 := fun z => c3 (decide_eq_true z)
          rw [if_neg c3'] at ef
          refine ⟨_, rfl, ?_⟩
          rw [ef] at k
          exact k
end
end K3

set_option Elab.async false
set_option linter.all false
set_option maxRecDepth 100000
set_option maxHeartbeats 4000000
/-! KD2: the program's rooms of stretches -/
namespace K3
open PySem PySem.Spec PyProof.Rows L2
section
variable {P : Program} {w : World} {K : PySem.W.Frag} {mg : Str → Option Value} {base : Heap}
abbrev s_rooms_from : Stmt := top 41
abbrev N_rooms_from : List Str := ["values", "start", "least", "greatest", "low", "high", "unlike", "rooms", "at", "step"]
abbrev P_rooms_from : List Str := ["values", "start"]
theorem sc_rooms_from : FnScope N_rooms_from P_rooms_from (defScope s_rooms_from) := ⟨rfl, rfl, rfl, by decide +kernel, rfl, by decide +kernel, by decide +kernel⟩
def spRf (K : PySem.W.Frag) : Sp := fun vs H Q _ => ∃ (a : Addr) (ns : List Int) (i : Nat), vs = [.ref a, .int (i : Int)] ∧ SqL K H a (ns.map V.int) ∧ Good ns ∧ i < ns.length ∧
  ∀ (H' : Hp) (p : Addr) (ps : List V), Same H H' → H p = none → H' p = some (.lst ps) → Paired (PairAt K H') ps (roomsL ns i (ns.length - i)) → Q (.ref p) H'
theorem ok_rooms_from (T : Txt mg) (TC : TxtC mg) (D : Df K mg "rooms_from" s_rooms_from P_rooms_from) (G_fewest_cells : Fn P w K mg base CX0 3 "fewest_cells" P_fewest_cells spFcells) : Fn P w K mg base CX0 4 "rooms_from" P_rooms_from (spRf K) := by
  refine D.ok sc_rooms_from (fun vs H Q E h => ?_) (fun f cdv A outer s H vs Q E hr h => ?_)
  · obtain ⟨a, ns, i, rfl, _⟩ := h
    rfl
  · obtain ⟨a, ns, i, rfl, hS, G, hi, k⟩ := h
    have nd := sc_rooms_from.nd
    refine ⟨_, (pss_cons (ps_set (i := 2) nd rfl (by first | exact Or.inl rfl | exact Or.inr rfl) (pe_ix ix_list (pv 0) (pv 1) (fun _ _ => rfl)))
  (pss_cons (ps_set (i := 3) nd rfl (by first | exact Or.inl rfl | exact Or.inr rfl) (pe_ix ix_list (pv 0) (pv 1) (fun _ _ => rfl)))
  (pss_cons (ps_set (i := 4) nd rfl (by first | exact Or.inl rfl | exact Or.inr rfl) (pe_gint TC.c_FURTHEST))
  (pss_cons (ps_set (i := 5) nd rfl (by first | exact Or.inl rfl | exact Or.inr rfl) (pe_un un_neg (pe_gint TC.c_FURTHEST)))
  (pss_cons (ps_set (i := 6) nd rfl (by first | exact Or.inl rfl | exact Or.inr rfl) (pe_callTy0 cr_set0 (by rfl) T.b_set (by decide +kernel)))
  (pss_cons (ps_set (i := 7) nd rfl (by first | exact Or.inl rfl | exact Or.inr rfl) (pe_lst pa_nil))
  (pss_cons (ps_for PassesOwn.never rfl (pi_range2 (by rfl) T.b_range (pa_cons (pv 1) (pa_cons (pe_callB call_len_seq (by rfl) T.b_len (by decide +kernel) (pa_cons (pv 0) pa_nil)) pa_nil))) (pg_name (i := 8) nd rfl (by first | exact Or.inl rfl | exact Or.inr rfl))
  (pss_cons (ps_set (i := 2) nd rfl (by first | exact Or.inl rfl | exact Or.inr rfl) (pe_callB (call_min2 rfl) (by rfl) T.b_min (by decide +kernel) (pa_cons (pv 2) (pa_cons (pe_ix ix_list (pv 0) (pv 8) (fun _ _ => rfl)) pa_nil))))
  (pss_cons (ps_set (i := 3) nd rfl (by first | exact Or.inl rfl | exact Or.inr rfl) (pe_callB (call_max2 rfl) (by rfl) T.b_max (by decide +kernel) (pa_cons (pv 3) (pa_cons (pe_ix ix_list (pv 0) (pv 8) (fun _ _ => rfl)) pa_nil))))
  (pss_cons (ps_expr (pe_sadd (pv 6) (pa_cons (pe_ix ix_list (pv 0) (pv 8) (fun _ _ => rfl)) pa_nil)))
  (pss_cons (ps_if (pt_cmpR op_gt (pv 8) (pv 1) (nomark _))
  (pss_cons (ps_set (i := 9) nd rfl (by first | exact Or.inl rfl | exact Or.inr rfl) (pe_op op_sub (pe_ix ix_list (pv 0) (pv 8) (fun _ _ => rfl)) (pe_ix ix_list (pv 0) (pe_op op_sub (pv 8) pe_int) (fun _ _ => rfl))))
  (pss_cons (ps_set (i := 4) nd rfl (by first | exact Or.inl rfl | exact Or.inr rfl) (pe_callB (call_min2 rfl) (by rfl) T.b_min (by decide +kernel) (pa_cons (pv 4) (pa_cons (pv 9) pa_nil))))
  (pss_one (ps_set (i := 5) nd rfl (by first | exact Or.inl rfl | exact Or.inr rfl) (pe_callB (call_max2 rfl) (by rfl) T.b_max (by decide +kernel) (pa_cons (pv 5) (pa_cons (pv 9) pa_nil)))))))
  pss_nil)
  (pss_one (ps_expr (pe_bm PySem.F.plainAttrs_list PySem.F.slot_list_append PySem.F.type_list_append mt_append (pv 7) (pa_cons (pe_tup (pa_cons (pe_op op_add (pv 8) pe_int) (pa_cons (pe_c G_fewest_cells (hr.mono (by decide)) pass0 (pa_cons (pe_op op_sub (pe_op op_add (pv 8) pe_int) (pv 1)) (pa_cons (pe_callB cr_lenSet (by rfl) T.b_len (by decide +kernel) (pa_cons (pv 6) pa_nil)) (pa_cons (pe_op op_sub (pv 3) (pv 2)) (pa_cons (pe_op op_sub (pv 5) (pv 4)) pa_nil))))) pa_nil))) pa_nil)))))))))
  (pss_one (ps_ret (pv 7)))))))))), ?_⟩
    have few := G.few
    obtain ⟨x0, hx0⟩ : ∃ x0, ns[i]? = some x0 := ⟨_, List.getElem?_eq_getElem hi⟩
    have at0' : ∀ {j : Nat} {y : Int}, ns[j]? = some y → atI (ns.map V.int) (j : Int) = some (.int y) := fun h => atI_nat (by rw [List.getElem?_map, h]; rfl)
    refine ⟨_, rfl, _, rfl, a, _, _, .int x0, rfl, rfl, hS, at0' hx0, ?_⟩
    refine ⟨_, rfl, _, rfl, a, _, _, .int x0, rfl, rfl, hS, at0' hx0, ?_⟩
    refine ⟨_, rfl, ?_⟩
    refine ⟨rfl, fun u nu => ?_⟩
    refine ⟨Nat.zero_le _, fun r nr => ?_⟩
    have su := Same.upd (o := SetO w u (fun _ => false) 0) nu
    have sr := Same.upd (o := .lst []) nr
    have nrH := su.free nr
    have nur : u ≠ r := fun z => by rw [← z, upd_same] at nr; cases nr
    refine ⟨_, rfl, _, rfl, a, _, rfl, .inl ((su.trans sr).seq hS), _, _, rfl, ⟨by omega, by omega, by omega, by rw [List.length_map]; omega⟩, ?_⟩
    have en : (((ns.map V.int).length : Int) - (i : Int)).toNat = ns.length - i := by
      rw [List.length_map]
      omega
    rw [en]
    refine for_it (walk_range (lo := (i : Int))) (fun m σ H' => ∃ (v8 v9 : Option V) (ps : List V), σ = [some (.ref a), some (.int (i : Int)), some (.int (leastS x0 (seg ns i (i + m)))), some (.int (greatS x0 (seg ns i (i + m)))), some (.int (lowS (seg ns i (i + m)))), some (.int (highS (seg ns i (i + m)))), some (.ref u), some (.ref r), v8, v9] ∧ Same H H' ∧ H' u = some (SetO w u (fun j => decide (j ∈ seg ns i (i + m))) (usort (seg ns i (i + m))).length) ∧ H' r = some (.lst ps) ∧ Paired (PairAt K H') ps (roomsL ns i m)) ⟨none, none, [], ?_, su.trans sr, ?_, upd_same, .nil⟩ (fun _ _ _ _ _ => True.intro) ?_ ?_
    · rw [Nat.add_zero, seg_nil]
      rfl
    · rw [Nat.add_zero, seg_nil, upd_ne nur]
      exact upd_same
    · rintro m x σ H2 H2' hm ⟨v8, v9, ps, rfl, s2, hu, hp, pr⟩ ⟨rfl, rfl⟩
      have him : i + m < ns.length := by omega
      have ei : (i : Int) + (m : Int) = ((i + m : Nat) : Int) := by omega
      obtain ⟨y, hy⟩ : ∃ y, ns[i + m]? = some y := ⟨_, List.getElem?_eq_getElem him⟩
      have yb := G.inn y (List.mem_of_getElem? hy)
      have sg : seg ns i (i + m + 1) = seg ns i (i + m) ++ [y] := seg_more (by omega) hy
      have g0 : seg ns i (i + m) = [] → y = x0 := fun z => by
        have := congrArg List.length z
        rw [seg_length (by omega), List.length_nil] at this
        obtain rfl : m = 0 := by omega
        rw [Nat.add_zero, hx0] at hy
        exact (Option.some.inj hy).symm
      have glen : (seg ns i (i + m)).length = m := by rw [seg_length (by omega)]; omega
      have plen : ps.length = m := by rw [Paired.length pr, roomsL_length]
      have Gs := good_seg G (show i < i + m + 1 by omega) (by omega)
      have gne := Gs.ne
      have glen' : (seg ns i (i + m + 1)).length = m + 1 := by rw [seg_length (by omega)]; omega
      have hyI : atI (ns.map V.int) ((i : Int) + (m : Int)) = some (.int y) := by rw [ei]; exact at0' hy
      have eL : leastS x0 (seg ns i (i + m + 1)) = lmin (seg ns i (i + m + 1)) := if_neg gne
      have eG : greatS x0 (seg ns i (i + m + 1)) = lmax (seg ns i (i + m + 1)) := if_neg gne
      have hul := usort_length (seg ns i (i + m))
      have hul' := usort_length (seg ns i (i + m + 1))
      have hup := unl_pos gne
      have hsp := span_nn gne
      refine ⟨_, rfl, _, rfl, _, rfl, a, _, _, .int y, rfl, rfl, s2.seq hS, hyI, _, _, rfl, ?_⟩
      rw [← leastS_snoc g0, ← sg]
      refine ⟨_, rfl, _, rfl, _, rfl, a, _, _, .int y, rfl, rfl, s2.seq hS, hyI, _, _, rfl, ?_⟩
      rw [← greatS_snoc g0, ← sg]
      have eset : ∀ w', w' = w → SetO w' u (fun j => decide (j ∈ seg ns i (i + m)) || decide (j = y)) (if decide (y ∈ seg ns i (i + m)) = true then (usort (seg ns i (i + m))).length else (usort (seg ns i (i + m))).length + 1) = SetO w u (fun j => decide (j ∈ seg ns i (i + m + 1))) (usort (seg ns i (i + m + 1))).length := by
        intro w' ew
        rw [ew, snoc_fun, sg, usort_more]
        by_cases c : y ∈ seg ns i (i + m)
        · rw [if_pos c, if_pos (decide_eq_true c)]
        · rw [if_neg c, if_neg (fun z => c (of_decide_eq_true z))]
      refine ⟨_, rfl, ⟨u, _, _, rfl, hu⟩, _, rfl, _, rfl, a, _, _, .int y, rfl, rfl, s2.seq hS, hyI, u, y, _, _, rfl, rfl, hu, (by show _ + 1 < scanBound; unfold scanBound; omega), ?_⟩
      rw [eset]
      rotate_left
      · rfl
      have s3 : Same H (upd H2' u (SetO w u (fun j => decide (j ∈ seg ns i (i + m + 1))) (usort (seg ns i (i + m + 1))).length)) := Same.put s2 nu
      have hu3 : (upd H2' u (SetO w u (fun j => decide (j ∈ seg ns i (i + m + 1))) (usort (seg ns i (i + m + 1))).length)) u = some (SetO w u (fun j => decide (j ∈ seg ns i (i + m + 1))) (usort (seg ns i (i + m + 1))).length) := upd_same
      have hp3 : (upd H2' u (SetO w u (fun j => decide (j ∈ seg ns i (i + m + 1))) (usort (seg ns i (i + m + 1))).length)) r = some (.lst ps) := (upd_ne nur.symm).trans hp
      have pr3 := pairs_keep pr (SameT.setO (o := SetO w u (fun j => decide (j ∈ seg ns i (i + m + 1))) (usort (seg ns i (i + m + 1))).length) hu)
      generalize (upd H2' u (SetO w u (fun j => decide (j ∈ seg ns i (i + m + 1))) (usort (seg ns i (i + m + 1))).length)) = H3 at s3 hu3 hp3 pr3 ⊢
      refine ⟨_, rfl, _, rfl, _, _, rfl, rfl, _, rfl, ?_⟩
      refine ite2 (fun c => ?_) (fun c => ?_)
      · have c' : (i : Int) < (i : Int) + (m : Int) := of_decide_eq_true c
        obtain ⟨z, hz⟩ : ∃ z, ns[i + m - 1]? = some z := ⟨_, List.getElem?_eq_getElem (by omega)⟩
        have zb := G.inn z (List.mem_of_getElem? hz)
        have hzI : atI (ns.map V.int) ((i : Int) + (m : Int) - 1) = some (.int z) := by
          have e : (i : Int) + (m : Int) - 1 = ((i + m - 1 : Nat) : Int) := by omega
          rw [e]
          exact at0' hz
        have hl := seg_last (i := i) (by omega) (by omega) hz
        refine ⟨_, rfl, _, rfl, a, _, _, .int y, rfl, rfl, s3.seq hS, hyI, _, rfl, _, rfl, _, _, rfl, rfl, a, _, _, .int z, rfl, rfl, s3.seq hS, hzI, _, _, rfl, rfl, ?_⟩
        refine ⟨_, rfl, _, rfl, _, _, rfl, ?_⟩
        rw [← lowS_snoc hl (by omega), ← sg]
        refine ⟨_, rfl, _, rfl, _, _, rfl, ?_⟩
        rw [← highS_snoc hl (by omega), ← sg]
        refine ⟨_, rfl, .inl ⟨rfl, _, SqL.of hp3⟩, _, rfl, _, _, rfl, rfl, _, rfl, _, _, rfl, rfl, _, rfl, _, _, rfl, rfl, _, rfl, u, _, _, rfl, hu3, by omega, _, rfl, _, rfl, _, _, rfl, rfl, _, rfl, _, rfl, _, _, rfl, rfl, ?_⟩
        refine ⟨m + 1, (usort (seg ns i (i + m + 1))).length, lmax (seg ns i (i + m + 1)) - lmin (seg ns i (i + m + 1)), stepSpan (seg ns i (i + m + 1)), ?_, by omega, by omega, hup, by omega, hsp, fun n1 => ?_, (by show 2 ≤ sizeLine; decide), fun t nt => ?_⟩
        · show [V.int ((i : Int) + (m : Int) + 1 - (i : Int)), _, V.int (greatS x0 _ - leastS x0 _), V.int (highS _ - lowS _)] = _
          rw [eL, eG, stepSpan_eq, show (i : Int) + (m : Int) + 1 - (i : Int) = ((m + 1 : Nat) : Int) by omega]
        · unfold stepSpan
          rw [if_neg (by omega)]
          exact span_nn (steps_ne (by omega))
        have st := Same.upd (o := .tup [.int ((i : Int) + (m : Int) + 1), .int (fcells (m + 1) (usort (seg ns i (i + m + 1))).length (lmax (seg ns i (i + m + 1)) - lmin (seg ns i (i + m + 1))) (stepSpan (seg ns i (i + m + 1))) : Int)]) nt
        refine ⟨r, ps, _, rfl, rfl, st _ _ hp3, by rw [sizeLine_eq]; omega, ?_⟩
        refine ⟨_, _, ps ++ [.ref t], rfl, Same.put (s3.trans st) nrH, ?_, upd_same, ?_⟩
        · rw [upd_ne nur]
          exact st _ _ hu3
        · have er : roomsL ns i (m + 1) = roomsL ns i m ++ [(i + 1 + m, lr (seg ns i (i + 1 + m)) 5)] := by
            unfold roomsL
            rw [List.range_succ, List.map_append]
            rfl
          rw [er]
          refine paired_snoc (pairs_keep (pairs_keep pr3 (.of st)) (.lst (st _ _ hp3))) ⟨t, rfl, (SameT.lst (st _ _ hp3)).seqT (SqT.of ?_)⟩
          rw [upd_same]
          have ef := fcells_lr (ns := seg ns i (i + m + 1)) gne Gs.few
          rw [glen'] at ef
          rw [ef]
          show some (HO.tup [V.int ((i : Int) + (m : Int) + 1), V.int (lr (seg ns i (i + m + 1)) 5 : Int)]) = some (HO.tup [V.int ((i + 1 + m : Nat) : Int), V.int (lr (seg ns i (i + 1 + m)) 5 : Int)])
          rw [show (i : Int) + (m : Int) + 1 = ((i + 1 + m : Nat) : Int) by omega, show i + m + 1 = i + 1 + m by omega]
      · have c' : ¬ (i : Int) < (i : Int) + (m : Int) := fun z => c (decide_eq_true z)
        have e1 : lowS (seg ns i (i + m)) = lowS (seg ns i (i + m + 1)) := by
          unfold lowS
          rw [if_pos (by omega), if_pos (by omega)]
        have e2 : highS (seg ns i (i + m)) = highS (seg ns i (i + m + 1)) := by
          unfold highS
          rw [if_pos (by omega), if_pos (by omega)]
        rw [e1, e2]
        refine ⟨_, rfl, .inl ⟨rfl, _, SqL.of hp3⟩, _, rfl, _, _, rfl, rfl, _, rfl, _, _, rfl, rfl, _, rfl, _, _, rfl, rfl, _, rfl, u, _, _, rfl, hu3, by omega, _, rfl, _, rfl, _, _, rfl, rfl, _, rfl, _, rfl, _, _, rfl, rfl, ?_⟩
        refine ⟨m + 1, (usort (seg ns i (i + m + 1))).length, lmax (seg ns i (i + m + 1)) - lmin (seg ns i (i + m + 1)), stepSpan (seg ns i (i + m + 1)), ?_, by omega, by omega, hup, by omega, hsp, fun n1 => ?_, (by show 2 ≤ sizeLine; decide), fun t nt => ?_⟩
        · show [V.int ((i : Int) + (m : Int) + 1 - (i : Int)), _, V.int (greatS x0 _ - leastS x0 _), V.int (highS _ - lowS _)] = _
          rw [eL, eG, stepSpan_eq, show (i : Int) + (m : Int) + 1 - (i : Int) = ((m + 1 : Nat) : Int) by omega]
        · unfold stepSpan
          rw [if_neg (by omega)]
          exact span_nn (steps_ne (by omega))
        have st := Same.upd (o := .tup [.int ((i : Int) + (m : Int) + 1), .int (fcells (m + 1) (usort (seg ns i (i + m + 1))).length (lmax (seg ns i (i + m + 1)) - lmin (seg ns i (i + m + 1))) (stepSpan (seg ns i (i + m + 1))) : Int)]) nt
        refine ⟨r, ps, _, rfl, rfl, st _ _ hp3, by rw [sizeLine_eq]; omega, ?_⟩
        refine ⟨_, _, ps ++ [.ref t], rfl, Same.put (s3.trans st) nrH, ?_, upd_same, ?_⟩
        · rw [upd_ne nur]
          exact st _ _ hu3
        · have er : roomsL ns i (m + 1) = roomsL ns i m ++ [(i + 1 + m, lr (seg ns i (i + 1 + m)) 5)] := by
            unfold roomsL
            rw [List.range_succ, List.map_append]
            rfl
          rw [er]
          refine paired_snoc (pairs_keep (pairs_keep pr3 (.of st)) (.lst (st _ _ hp3))) ⟨t, rfl, (SameT.lst (st _ _ hp3)).seqT (SqT.of ?_)⟩
          rw [upd_same]
          have ef := fcells_lr (ns := seg ns i (i + m + 1)) gne Gs.few
          rw [glen'] at ef
          rw [ef]
          show some (HO.tup [V.int ((i : Int) + (m : Int) + 1), V.int (lr (seg ns i (i + m + 1)) 5 : Int)]) = some (HO.tup [V.int ((i + 1 + m : Nat) : Int), V.int (lr (seg ns i (i + 1 + m)) 5 : Int)])
          rw [show (i : Int) + (m : Int) + 1 = ((i + 1 + m : Nat) : Int) by omega, show i + m + 1 = i + 1 + m by omega]
    · rintro σ H' ⟨v8, v9, ps, rfl, s2, hu, hp, pr⟩
      exact ⟨_, rfl, k _ r ps s2 nrH hp pr⟩
end
end K3

set_option Elab.async false
set_option linter.all false
set_option maxRecDepth 100000
set_option maxHeartbeats 4000000
/-! KD3: the program's best ends, its cut -/
namespace K3
open PySem PySem.Spec PyProof.Rows L2
section
variable {P : Program} {w : World} {K : PySem.W.Frag} {mg : Str → Option Value} {base : Heap}
abbrev s_best_ends : Stmt := top 38
abbrev N_best_ends : List Str := ["values", "many", "best", "start", "choices", "end", "cells", "more", "stretches", "ends"]
abbrev P_best_ends : List Str := ["values"]
theorem sc_best_ends : FnScope N_best_ends P_best_ends (defScope s_best_ends) := ⟨rfl, rfl, rfl, by decide +kernel, rfl, by decide +kernel, by decide +kernel⟩
def spBends (K : PySem.W.Frag) : Sp := fun vs H Q _ => ∃ (a : Addr) (ns : List Int), vs = [.ref a] ∧ SqL K H a (ns.map V.int) ∧ Good ns ∧
  ∀ (H' : Hp) (e : Addr), Same H H' → H' e = some (.lst ((bc ns 0).c.map V.int)) → Q (.ref e) H'
theorem ok_best_ends (T : Txt mg) (D : Df K mg "best_ends" s_best_ends P_best_ends) (G_rooms_from : Fn P w K mg base CX0 4 "rooms_from" P_rooms_from (spRf K)) : Fn P w K mg base CX0 5 "best_ends" P_best_ends (spBends K) := by
  refine D.ok sc_best_ends (fun vs H Q E h => ?_) (fun f cdv A outer s H vs Q E hr h => ?_)
  · obtain ⟨a, ns, rfl, _⟩ := h
    rfl
  · obtain ⟨a, ns, rfl, hS, G, k⟩ := h
    have nd := sc_best_ends.nd
    refine ⟨_, (pss_cons (ps_set (i := 1) nd rfl (by first | exact Or.inl rfl | exact Or.inr rfl) (pe_callB call_len_seq (by rfl) T.b_len (by decide +kernel) (pa_cons (pv 0) pa_nil)))
  (pss_cons (ps_set (i := 2) nd rfl (by first | exact Or.inl rfl | exact Or.inr rfl) (pe_disp (pps_cons (pv 1) (pe_tup (pa_cons pe_int (pa_cons pe_int (pa_cons (pe_lst pa_nil) pa_nil)))) pps_nil) (by rfl) (by rfl) (fun z => by cases z) (by decide)))
  (pss_cons (ps_for PassesOwn.never rfl (pi_revR (by rfl) T.b_reversed (prg_1 (by rfl) T.b_range (pv 1))) (pg_name (i := 3) nd rfl (by first | exact Or.inl rfl | exact Or.inr rfl))
  (pss_cons (ps_set (i := 4) nd rfl (by first | exact Or.inl rfl | exact Or.inr rfl) (pe_lst pa_nil))
  (pss_cons (ps_for PassesOwn.never rfl (pi_list (pe_c G_rooms_from (hr.mono (by decide)) pass0 (pa_cons (pv 0) (pa_cons (pv 3) pa_nil)))) (pg_tup (by rfl) (pgs_cons (pg_name (i := 5) nd rfl (by first | exact Or.inl rfl | exact Or.inr rfl)) (pgs_cons (pg_name (i := 6) nd rfl (by first | exact Or.inl rfl | exact Or.inr rfl)) pgs_nil)))
  (pss_cons (ps_asg (pe_dget (hu_of hr) (pv 2) (pv 5) (fun _ _ => rfl)) (pg_tup (by rfl) (pgs_cons (pg_name (i := 7) nd rfl (by first | exact Or.inl rfl | exact Or.inr rfl)) (pgs_cons (pg_name (i := 8) nd rfl (by first | exact Or.inl rfl | exact Or.inr rfl)) (pgs_cons (pg_name (i := 9) nd rfl (by first | exact Or.inl rfl | exact Or.inr rfl)) pgs_nil)))))
  (pss_one (ps_expr (pe_bm PySem.F.plainAttrs_list PySem.F.slot_list_append PySem.F.type_list_append mt_append (pv 4) (pa_cons (pe_tup (pa_cons (pe_op op_add (pv 6) (pv 7)) (pa_cons (pe_op op_add pe_int (pv 8)) (pa_cons (pe_op op_cat (pe_lst (pa_cons (pv 5) pa_nil)) (pv 9)) pa_nil)))) pa_nil))))))
  (pss_one (ps_dput (hu_of hr) (pv 2) (pv 3) (pe_callB (cr_minC rfl hr.units) (by rfl) T.b_min (by decide +kernel) (pa_cons (pv 4) pa_nil)) rfl)))))
  (pss_one (ps_ret (pe_ix ix_tup (pe_dget (hu_of hr) (pv 2) pe_int (fun _ _ => rfl)) pe_int (fun _ _ => rfl))))))), ?_⟩
    have few := G.few
    have pos := List.length_pos_iff.mpr G.ne
    refine ⟨_, rfl, a, _, rfl, .inl hS, ?_⟩
    rw [List.length_map]
    refine fun d nd0 => ?_
    refine ⟨_, rfl, Nat.zero_le _, fun e ne => ⟨(by show 3 ≤ sizeLine; decide), fun t nt => ?_⟩⟩
    have sd := Same.upd (o := .dK []) nd0
    have se := Same.upd (o := .lst []) ne
    have st := Same.upd (o := .tup [.int 0, .int 0, .ref e]) nt
    have hd1 := st _ _ (se _ _ (upd_same (H := H) (a := d) (o := .dK [])))
    refine ⟨hd1, [(.inl (ns.length : Int), .ref t)], rfl, (by show 1 ≤ 15; decide), ?_⟩
    have s1 := (sd.trans se).trans st
    have c1 : CutV K (upd (upd (upd H d (.dK [])) e (.lst [])) t (.tup [.int 0, .int 0, .ref e])) (.ref t) ⟨0, 0, []⟩ := ⟨t, e, rfl, SqT.of upd_same, st _ _ upd_same⟩
    have c2 : CutV K (upd (upd (upd (upd H d (.dK [])) e (.lst [])) t (.tup [.int 0, .int 0, .ref e])) d (.dK [(.inl (ns.length : Int), .ref t)])) (.ref t) ⟨0, 0, []⟩ := c1.dct hd1
    have s2 : Same H (upd (upd (upd (upd H d (.dK [])) e (.lst [])) t (.tup [.int 0, .int 0, .ref e])) d (.dK [(.inl (ns.length : Int), .ref t)])) := Same.put s1 nd0
    refine ⟨_, rfl, _, rfl, by omega, by omega, by omega, by omega, ?_⟩
    have e0 : (0 : Int) + ((((ns.length : Int) - 0).toNat : Nat) : Int) - 1 = (ns.length : Int) - 1 := by omega
    have e00 : ((ns.length : Int) - 0).toNat = ns.length := by omega
    rw [e0, e00]
    refine for_it walk_rangeC (fun m σ H' => ∃ (v3 v4 v5 v6 v7 v8 v9 : Option V) (kvs : List (Key × V)), σ = [some (.ref a), some (.int (ns.length : Nat)), some (.ref d), v3, v4, v5, v6, v7, v8, v9] ∧ Same H H' ∧ H' d = some (.dK kvs) ∧ kvs.length ≤ m + 1 ∧ ∀ j, ns.length - m ≤ j → j ≤ ns.length → ∃ x, valV kvs (.inl (j : Int)) = some x ∧ CutV K H' x (bc ns j)) ⟨none, none, none, none, none, none, none, _, rfl, s2, upd_same, Nat.le_refl _, fun j h1 h2 => ?_⟩ (fun _ _ _ _ _ => True.intro) ?_ ?_
    · obtain rfl : j = ns.length := by omega
      refine ⟨.ref t, valV_pos rfl, ?_⟩
      rw [bc_end (Nat.lt_irrefl _)]
      exact c2
    · rintro m x σ H3 H3' hm ⟨v3, v4, v5, v6, v7, v8, v9, kvs, rfl, s3, hd3, kl, tab⟩ ⟨rfl, rfl⟩
      obtain ⟨b, hb⟩ : ∃ b, ns.length = b + 1 + m := ⟨ns.length - 1 - m, by omega⟩
      have eb : (ns.length : Int) - 1 + (m : Int) * (-1) = (b : Int) := by omega
      have hbn : b < ns.length := by omega
      refine ⟨Nat.zero_le _, fun l nl => ?_⟩
      have sl := Same.upd (o := .lst []) nl
      refine ⟨_, rfl, _, rfl, a, ns, b, ?_, (s3.trans sl).seq hS, G, hbn, fun H4 p ps s4 np hp prp => ?_⟩
      · show [V.ref a, V.int ((ns.length : Int) - 1 + (m : Int) * (-1))] = _
        rw [eb]
      have npl : l ≠ p := ne_of_none upd_same np
      have plen : ps.length = ns.length - b := by rw [Paired.length prp, roomsL_length]
      refine ⟨p, rfl, ⟨_, SqL.of hp⟩, for_it (walk_list (xs := ps)) (fun q σ H' => ∃ (v5 v6 v7 v8 v9 : Option V) (ys : List V), σ = [some (.ref a), some (.int (ns.length : Nat)), some (.ref d), some (.int ((ns.length : Int) - 1 + (m : Int) * (-1))), some (.ref l), v5, v6, v7, v8, v9] ∧ Same H3' H' ∧ H' p = some (.lst ps) ∧ H' l = some (.lst ys) ∧ Paired (PairAt K H') ps (roomsL ns b (ns.length - b)) ∧ Paired (CutN K H' l) ys ((List.range q).map fun k => cand ns b (b + 1 + k) (bc ns (b + 1 + k)))) ⟨v5, v6, v7, v8, v9, [], rfl, sl.trans s4, hp, s4 _ _ upd_same, prp, .nil⟩ (fun _ _ _ _ ⟨_, _, _, _, _, _, _, _, h, _⟩ => SqL.of h) ?_ ?_⟩
      · rintro q x σ H5 H5' hq ⟨w5, w6, w7, w8, w9, ys, rfl, s5, hp5, hl5, prr, pr⟩ ⟨rfl, ex⟩
        have hq' : q < ns.length - b := by omega
        have ylen : ys.length = q := by
          have := Paired.length pr
          rw [List.length_map, List.length_range] at this
          exact this
        obtain ⟨z, hz, pt, rfl, hpt⟩ := paired_at prr ex
        rw [roomsL_at hq'] at hz
        obtain rfl := Option.some.inj hz
        have hpt : SqT K H5' pt [.int ((b + 1 + q : Nat) : Int), .int (lr (seg ns b (b + 1 + q)) 5 : Int)] := hpt
        refine ⟨pt, _, rfl, hpt, rfl, _, _, rfl, _, _, rfl, rfl, ?_⟩
        obtain ⟨_, hx, ax, ex2, rfl, x1, x2⟩ := tab (b + 1 + q) (by omega) (by omega)
        have dg : DGet H5' d (.int ((b + 1 + q : Nat) : Int)) (some (.ref ax)) := .inl ⟨kvs, .inl ((b + 1 + q : Nat) : Int), .inl (s5 _ _ hd3), rfl, hx.symm⟩
        refine ⟨_, rfl, _, rfl, d, _, rfl, dg, ax, _, rfl, s5.seqT x1, rfl, _, _, rfl, _, _, rfl, _, _, rfl, rfl, ?_⟩
        have clen := bc_len (vs := ns) _ (b + 1 + q) (Nat.le_refl _)
        refine ⟨_, rfl, .inl ⟨rfl, _, SqL.of hl5⟩, _, rfl, _, rfl, _, _, rfl, rfl, _, rfl, _, _, rfl, rfl, _, rfl, (by show 1 ≤ sizeLine; decide), fun q2 nq2 => ?_⟩
        have sA := Same.upd (H := H5') (o := .lst [.int ((b + 1 + q : Nat) : Int)]) nq2
        refine ⟨_, rfl, q2, ex2, _, _, rfl, rfl, upd_same, sA _ _ (s5 _ _ x2), ?_, fun r nr => ⟨(by show 3 ≤ sizeLine; decide), fun t2 nt2 => ?_⟩⟩
        · rw [List.length_map, sizeLine_eq]
          show 1 + (bc ns (b + 1 + q)).c.length ≤ _
          omega
        have er : ([V.int ((b + 1 + q : Nat) : Int)] ++ (bc ns (b + 1 + q)).c.map V.int) = (((b + 1 + q : Nat) : Int) :: (bc ns (b + 1 + q)).c).map V.int := rfl
        have sB := (sA.upd' (o := .lst ([V.int ((b + 1 + q : Nat) : Int)] ++ (bc ns (b + 1 + q)).c.map V.int)) nr).upd' (o := .tup [.int ((lr (seg ns b (b + 1 + q)) 5 : Int) + (bc ns (b + 1 + q)).a), .int (1 + (bc ns (b + 1 + q)).b), .ref r]) nt2
        have nrl : r ≠ l := fun z => by
          rw [z] at nr
          have := sA _ _ hl5
          rw [nr] at this
          cases this
        have hr2 := Same.upd (o := .tup [.int ((lr (seg ns b (b + 1 + q)) 5 : Int) + (bc ns (b + 1 + q)).a), .int (1 + (bc ns (b + 1 + q)).b), .ref r]) nt2 _ _ (upd_same (H := upd H5' q2 (.lst [.int ((b + 1 + q : Nat) : Int)])) (a := r) (o := .lst ([V.int ((b + 1 + q : Nat) : Int)] ++ (bc ns (b + 1 + q)).c.map V.int)))
        have ecand : cand ns b (b + 1 + q) (bc ns (b + 1 + q)) = ⟨(lr (seg ns b (b + 1 + q)) 5 : Int) + (bc ns (b + 1 + q)).a, 1 + (bc ns (b + 1 + q)).b, ((b + 1 + q : Nat) : Int) :: (bc ns (b + 1 + q)).c⟩ := by
          unfold cand
          rw [bestF_room, Int.add_comm, Int.add_comm (bc ns (b + 1 + q)).b]
        have new0 : CutN K _ l (.ref t2) ⟨(lr (seg ns b (b + 1 + q)) 5 : Int) + (bc ns (b + 1 + q)).a, 1 + (bc ns (b + 1 + q)).b, ((b + 1 + q : Nat) : Int) :: (bc ns (b + 1 + q)).c⟩ := ⟨t2, r, rfl, SqT.of upd_same, hr2.trans (congrArg (fun z => some (HO.lst z)) er), nrl⟩
        have new := Eq.mp (congrArg (CutN K _ l (.ref t2)) ecand.symm) new0
        refine ⟨l, ys, _, rfl, rfl, sB _ _ hl5, by rw [sizeLine_eq]; omega, ?_⟩
        refine ⟨_, _, _, _, _, _, rfl, Same.put (s5.trans sB) nl, (upd_ne npl.symm).trans (sB _ _ hp5), upd_same, pairs_keep (pairs_keep prr (.of sB)) (.lst (sB _ _ hl5)), ?_⟩
        rw [List.range_succ, List.map_append]
        exact paired_snoc (Paired.mapP pr fun _ _ h => (h.same sB).put (sB _ _ hl5)) (new.put (sB _ _ hl5))
      · rintro σ H5 ⟨w5, w6, w7, w8, w9, ys, rfl, s5, hp5, hl5, prr, pr⟩
        rw [plen] at pr
        refine ⟨_, rfl, l, ys, _, rfl, SqL.of hl5, Paired.mapP pr fun _ _ h => h.cut, cands_ne hbn _, fun y hy => ?_⟩
        rw [← bc_at hbn] at hy
        refine ⟨_, rfl, _, rfl, d, _, rfl, DPut.k (k := .inl ((ns.length : Int) - 1 + (m : Int) * (-1))) (s5 _ _ hd3) (by rw [sizeLine_eq]; omega), ?_⟩
        refine ⟨_, _, _, _, _, _, _, _, rfl, Same.put (s3.trans s5) nd0, upd_same, by have := length_putK kvs (.inl ((ns.length : Int) - 1 + (m : Int) * (-1)) : Key) y; omega, fun j h1 h2 => ?_⟩
        rw [valV_put]
        by_cases cj : j = b
        · subst cj
          refine ⟨y, if_pos (by rw [eb]), hy.dct (s5 _ _ hd3)⟩
        · obtain ⟨x', hx', cx⟩ := tab j (by omega) h2
          refine ⟨x', ?_, (cx.same s5).dct (s5 _ _ hd3)⟩
          rw [if_neg (fun z => cj (by have := Sum.inl.inj z; omega))]
          exact hx'
    · rintro σ H3 ⟨v3, v4, v5, v6, v7, v8, v9, kvs, rfl, s3, hd3, kl, tab⟩
      obtain ⟨x, hx, ax, ex, rfl, x1, x2⟩ := tab 0 (by omega) (by omega)
      exact ⟨_, rfl, d, .ref ax, rfl, .inl ⟨kvs, .inl 0, .inl hd3, rfl, hx.symm⟩, ax, _, 2, _, rfl, rfl, x1, at_of (j := 2) (by omega) rfl, k _ ex s3 x2⟩
abbrev s_cut : Stmt := top 37
abbrev N_cut : List Str := ["values", "forms", "start", "end"]
abbrev P_cut : List Str := ["values"]
theorem sc_cut : FnScope N_cut P_cut (defScope s_cut) := ⟨rfl, rfl, rfl, by decide +kernel, rfl, by decide +kernel, by decide +kernel⟩
theorem ok_cut (T : Txt mg) (D : Df K mg "cut" s_cut P_cut) (G_check_values : Fn P w K mg base CX0 1 "check_values" P_check_values (spChV K)) (G_least_form : Fn P w K mg base CX0 6 "least_form" P_least_form (spBest K)) (G_best_ends : Fn P w K mg base CX0 5 "best_ends" P_best_ends (spBends K)) : Fn P w K mg base CX0 20 "cut" P_cut (spLforms K) := by
  refine D.ok sc_cut (fun vs H Q E h => ?_) (fun f cdv A outer s H vs Q E hr h => ?_)
  · obtain ⟨a, ns, rfl, _⟩ := h
    rfl
  · obtain ⟨a, ns, rfl, hS, G, k⟩ := h
    have nd := sc_cut.nd
    refine ⟨_, (pss_cons (ps_expr (pe_c G_check_values (hr.mono (by decide)) pass0 (pa_cons (pv 0) pa_nil)))
  (pss_cons (ps_set (i := 1) nd rfl (by first | exact Or.inl rfl | exact Or.inr rfl) (pe_lst pa_nil))
  (pss_cons (ps_set (i := 2) nd rfl (by first | exact Or.inl rfl | exact Or.inr rfl) pe_int)
  (pss_cons (ps_for PassesOwn.never rfl (pi_list (pe_c G_best_ends (hr.mono (by decide)) pass0 (pa_cons (pv 0) pa_nil))) (pg_name (i := 3) nd rfl (by first | exact Or.inl rfl | exact Or.inr rfl))
  (pss_cons (ps_expr (pe_bm PySem.F.plainAttrs_list PySem.F.slot_list_append PySem.F.type_list_append mt_append (pv 1) (pa_cons (pe_c G_least_form (hr.mono (by decide)) pass0 (pa_cons (pe_slice sl_list (pv 0) (po_some (pv 2)) (po_some (pv 3))) pa_nil)) pa_nil)))
  (pss_one (ps_set (i := 2) nd rfl (by first | exact Or.inl rfl | exact Or.inr rfl) (pv 3)))))
  (pss_one (ps_ret (pv 1))))))), ?_⟩
    have few := G.few
    refine ⟨_, rfl, a, ns, rfl, hS, G, fun H0 s0 => ?_⟩
    refine ⟨Nat.zero_le _, fun d nd1 => ?_⟩
    have nd0 := s0.free nd1
    have sd := s0.trans (Same.upd (o := .lst []) nd1)
    refine ⟨_, rfl, a, ns, rfl, sd.seq hS, G, fun H1 ex s1 x2 => ?_⟩
    have s01 := sd.trans s1
    have ends := bc_ends (vs := ns) _ 0 (Nat.le_refl _)
    have clen := bc_len (vs := ns) _ 0 (Nat.le_refl _)
    have nde : ex ≠ d := fun z => by
      rw [z] at x2
      have := s1 _ _ (upd_same (H := H0) (a := d) (o := .lst []))
      rw [this] at x2
      have e0 : [] = (bc ns 0).c.map V.int := HO.lst.inj (Option.some.inj x2)
      exact bc_ne (List.length_pos_iff.mpr G.ne) (List.map_eq_nil_iff.mp e0.symm)
    generalize hE : (bc ns 0).c = E at x2 ends clen
    refine ⟨ex, rfl, ⟨_, SqL.of x2⟩, for_it (walk_list (xs := E.map V.int)) (fun m σ H' => ∃ (bg : Nat) (v3 : Option V) (ps : List V), σ = [some (.ref a), some (.ref d), some (.int (bg : Int)), v3] ∧ Same H H' ∧ H' ex = some (.lst (E.map V.int)) ∧ H' d = some (.lst ps) ∧ Paired (FormP K H') ps (formsOf ns 0 (E.take m)) ∧ bg = lastE 0 (E.take m) ∧ Ends ns.length bg (E.drop m)) ⟨0, none, [], rfl, s01, x2, s1 _ _ upd_same, .nil, rfl, ends⟩ (fun _ _ _ _ ⟨_, _, _, _, _, h, _⟩ => SqL.of h) ?_ ?_⟩
    · rintro m x σ H2 H2' hm ⟨bg, v3, ps, rfl, s2, he2, hd2, pr, hbg, en⟩ ⟨rfl, e⟩
      obtain ⟨z, hz, rfl⟩ := map_at e
      obtain ⟨hml, hz2⟩ := List.getElem?_eq_some_iff.mp hz
      have edrop : E.drop m = z :: E.drop (m + 1) := by
        rw [List.drop_eq_getElem_cons hml, hz2]
      rw [edrop] at en
      obtain ⟨⟨j, rfl, j1, j2⟩, en2⟩ := en
      have jn : ((j : Nat) : Int).toNat = j := Int.toNat_natCast _
      rw [jn] at en2
      have plen : ps.length = m := by
        have := Paired.length pr
        rw [formsOf_length, List.length_take] at this
        omega
      refine ⟨_, rfl, .inl ⟨rfl, _, SqL.of hd2⟩, _, rfl, _, rfl, _, rfl, _, rfl, _, rfl, a, _, rfl, s2.seq hS, fun q nq => ?_⟩
      have es : seg ns bg j = (ns.drop bg).take (j - bg) := rfl
      have ej : (j : Int) = (bg : Int) + ((j - bg : Nat) : Int) := by omega
      rw [ej, cutV_part, ← List.map_drop, ← List.map_take, ← es, ← ej]
      refine ⟨q, seg ns bg j, rfl, SqL.of upd_same, good_seg G j1 j2, fun H3 p s3 hF => ?_⟩
      have s23 := (Same.upd (o := .lst ((seg ns bg j).map V.int)) nq).trans s3
      refine ⟨d, ps, _, rfl, rfl, s23 _ _ hd2, by rw [sizeLine_eq]; omega, ?_⟩
      refine ⟨_, rfl, j, _, _, rfl, Same.put (s2.trans s23) nd0, (upd_ne nde).trans (s23 _ _ he2), upd_same, ?_, ?_, en2⟩
      · rw [take_more hz, formsOf_snoc, ← hbg, jn]
        exact paired_snoc (formP_keep (formP_keep pr (.of s23)) (.lst (s23 _ _ hd2))) ⟨p, rfl, hF.keep (.lst (s23 _ _ hd2)), bestF_ok (good_seg G j1 j2)⟩
      · rw [take_more hz, lastE_snoc, jn]
    · rintro σ H2 ⟨bg, v3, ps, rfl, s2, he2, hd2, pr, hbg, en⟩
      rw [List.length_map, List.take_length, ← hE] at pr
      exact ⟨_, rfl, k _ d ps s2 nd0 hd2 pr⟩
end
end K3

set_option Elab.async false
set_option linter.all false
set_option maxRecDepth 100000
set_option maxHeartbeats 4000000
/-! KD4: the program's prices, its bound -/
namespace K3
open PySem PySem.Spec PyProof.Rows L2
/-- each value by itself: two cells a value -/
theorem cost_two : ∀ ns : List Int, Cost ns (2 * ns.length)
  | [] => .nil
  | n :: r => by
    have h := Cost.cons (xs := [n]) (i := 0) (F := .plain [n]) (by simp) (by decide) rfl (cost_two r)
    have e : room (.plain [n]) + 2 * r.length = 2 * (n :: r).length := by
      show 1 + 1 + 2 * r.length = 2 * (r.length + 1)
      omega
    rw [e] at h
    exact h
/-- what the table holds: starts ahead of i looked at, of i the first e ends -/
structure PrIn (ns : List Int) (i e : Nat) (fs : List Int) : Prop where
  len : fs.length = ns.length + 1
  all : ∀ k, k ≤ ns.length → ∃ c : Nat, fs[k]? = some (c : Int) ∧ Cost (ns.take k) c ∧ ∀ (j d : Nat), (j < i ∨ (j = i ∧ k < i + 1 + e)) → j < k → fs[j]? = some (d : Int) → c ≤ d + lr (seg ns j k) 5
theorem PrIn.next {ns fs : List Int} {i : Nat} (hi : i < ns.length) (h : PrIn ns i (ns.length - i) fs) : PrIn ns (i + 1) 0 fs := by
  refine ⟨h.len, fun k hk => ?_⟩
  obtain ⟨c, h1, h2, h3⟩ := h.all k hk
  refine ⟨c, h1, h2, fun j d hj hjk hd => h3 j d ?_ hjk hd⟩
  by_cases e : j = i
  · exact .inr ⟨e, by omega⟩
  · exact .inl (by omega)
theorem PrIn.done {ns fs : List Int} (h : PrIn ns ns.length 0 fs) : Prices ns fs := by
  have main : ∀ n k, k ≤ n → k ≤ ns.length → ∃ m : Nat, fs[k]? = some (m : Int) ∧ Fewest (ns.take k) m := by
    intro n
    induction n with
    | zero =>
      intro k hk hn
      obtain rfl : k = 0 := by omega
      obtain ⟨c, h1, h2, _⟩ := h.all 0 hn
      have : c = 0 := cost_nil h2
      exact ⟨c, h1, h2, fun c' _ => by omega⟩
    | succ n ih =>
      intro k hk hn
      obtain ⟨c, h1, h2, h3⟩ := h.all k hn
      refine ⟨c, h1, h2, fun c' hc' => ?_⟩
      by_cases k0 : k = 0
      · subst k0
        have : c = 0 := cost_nil h2
        omega
      · have hne : ns.take k ≠ [] := fun z => by
          have := congrArg List.length z
          rw [List.length_take, List.length_nil] at this
          omega
        obtain ⟨j, q, F, d, j1, j2, j3, j4, rfl⟩ := hc'.last hne
        rw [List.length_take] at j1
        have e1 : (ns.take k).take j = ns.take j := by rw [List.take_take]; congr 1; omega
        have e2 : (ns.take k).drop j = seg ns j k := by
          unfold seg
          rw [List.drop_take]
        rw [e1] at j4
        rw [e2] at j3
        obtain ⟨m, m1, m2⟩ := ih j (by omega) (by omega)
        have a1 := m2.le _ j4
        have a2 := lr_le j2 j3
        have a3 := h3 j m (.inl (by omega)) (by omega) m1
        omega
  exact ⟨h.len, fun k hk => main k k (Nat.le_refl _) hk⟩
/-- one stretch looked at -/
theorem PrIn.step {ns fs : List Int} {i e : Nat} (h : PrIn ns i e fs) (he : i + 1 + e ≤ ns.length) : ∃ a b : Nat, fs[i + 1 + e]? = some (a : Int) ∧ fs[i]? = some (b : Int) ∧
    PrIn ns i (e + 1) (fs.set (i + 1 + e) (if (b : Int) + (lr (seg ns i (i + 1 + e)) 5 : Int) < (a : Int) then (b : Int) + (lr (seg ns i (i + 1 + e)) 5 : Int) else (a : Int))) := by
  obtain ⟨a, a1, a2, a3⟩ := h.all (i + 1 + e) he
  obtain ⟨b, b1, b2, b3⟩ := h.all i (by omega)
  refine ⟨a, b, a1, b1, by rw [List.length_set]; exact h.len, fun k hk => ?_⟩
  obtain ⟨c, c1, c2, c3⟩ := h.all k hk
  have back : ∀ (j d : Nat) (x : Int), j ≤ i → (fs.set (i + 1 + e) x)[j]? = some (d : Int) → fs[j]? = some (d : Int) := fun j d x hj hd => by
    rw [List.getElem?_set, if_neg (by omega)] at hd
    exact hd
  by_cases ek : k = i + 1 + e
  · subst ek
    rw [a1] at c1
    have e0 : (a : Int) = (c : Int) := Option.some.inj c1
    have hl : i + 1 + e < fs.length := by have := h.len; omega
    by_cases lt : (b : Int) + (lr (seg ns i (i + 1 + e)) 5 : Int) < (a : Int)
    · refine ⟨b + lr (seg ns i (i + 1 + e)) 5, ?_, ?_, fun j d hj hjk hd => ?_⟩
      · rw [if_pos lt, List.getElem?_set, if_pos rfl, if_pos hl, Int.natCast_add]
      · obtain ⟨q, F, q1, q2, q3⟩ := lr_at (vs := seg ns i (i + 1 + e))
        rw [← q3, ← take_seg (show i ≤ i + 1 + e by omega)]
        exact b2.app (Cost.one (seg_ne he (by omega)) q1 q2)
      · have hd2 := back j d _ (by omega) hd
        rcases hj with hj | ⟨rfl, hj⟩
        · have := c3 j d (.inl hj) hjk hd2
          omega
        · rw [b1] at hd2
          have : (b : Int) = (d : Int) := Option.some.inj hd2
          omega
    · refine ⟨c, ?_, c2, fun j d hj hjk hd => ?_⟩
      · rw [if_neg lt, List.getElem?_set, if_pos rfl, if_pos hl, e0]
      · have hd2 := back j d _ (by omega) hd
        rcases hj with hj | ⟨rfl, hj⟩
        · exact c3 j d (.inl hj) hjk hd2
        · rw [b1] at hd2
          have : (b : Int) = (d : Int) := Option.some.inj hd2
          omega
  · refine ⟨c, ?_, c2, fun j d hj hjk hd => ?_⟩
    · rw [List.getElem?_set, if_neg (by omega)]
      exact c1
    · have hd2 := back j d _ (by omega) hd
      refine c3 j d ?_ hjk hd2
      rcases hj with hj | ⟨rfl, hj⟩
      · exact .inl hj
      · exact .inr ⟨rfl, by omega⟩
theorem ixN_nat {n k : Nat} (h : k < n) : ixN n (k : Int) = some k := by
  unfold ixN
  rw [if_pos (by omega)]
  simp
  omega
section
variable {P : Program} {w : World} {K : PySem.W.Frag} {mg : Str → Option Value} {base : Heap}
abbrev s_prices : Stmt := top 39
abbrev N_prices : List Str := ["values", "fewest", "place", "start", "end", "cells"]
abbrev P_prices : List Str := ["values"]
theorem sc_prices : FnScope N_prices P_prices (defScope s_prices) := ⟨rfl, rfl, rfl, by decide +kernel, rfl, by decide +kernel, by decide +kernel⟩
theorem ok_prices (T : Txt mg) (D : Df K mg "prices" s_prices P_prices) (G_check_values : Fn P w K mg base CX0 1 "check_values" P_check_values (spChV K)) (G_rooms_from : Fn P w K mg base CX0 4 "rooms_from" P_rooms_from (spRf K)) : Fn P w K mg base CX0 20 "prices" P_prices (spLcosts K) := by
  refine D.ok sc_prices (fun vs H Q E h => ?_) (fun f cdv A outer s H vs Q E hr h => ?_)
  · obtain ⟨a, ns, rfl, _⟩ := h
    rfl
  · obtain ⟨a, ns, rfl, hS, G, k⟩ := h
    have nd := sc_prices.nd
    refine ⟨_, (pss_cons (ps_expr (pe_c G_check_values (hr.mono (by decide)) pass0 (pa_cons (pv 0) pa_nil)))
  (pss_cons (ps_set (i := 1) nd rfl (by first | exact Or.inl rfl | exact Or.inr rfl) (pe_lst (pa_cons pe_int pa_nil)))
  (pss_cons (ps_for PassesOwn.never rfl (pi_range2 (by rfl) T.b_range (pa_cons pe_int (pa_cons (pe_op op_add (pe_callB call_len_seq (by rfl) T.b_len (by decide +kernel) (pa_cons (pv 0) pa_nil)) pe_int) pa_nil))) (pg_name (i := 2) nd rfl (by first | exact Or.inl rfl | exact Or.inr rfl))
  (pss_one (ps_expr (pe_bm PySem.F.plainAttrs_list PySem.F.slot_list_append PySem.F.type_list_append mt_append (pv 1) (pa_cons (pe_op op_mul pe_int (pv 2)) pa_nil)))))
  (pss_cons (ps_for PassesOwn.never rfl (pi_range1 (by rfl) T.b_range (pa_cons (pe_callB call_len_seq (by rfl) T.b_len (by decide +kernel) (pa_cons (pv 0) pa_nil)) pa_nil)) (pg_name (i := 3) nd rfl (by first | exact Or.inl rfl | exact Or.inr rfl))
  (pss_one (ps_for PassesOwn.never rfl (pi_list (pe_c G_rooms_from (hr.mono (by decide)) pass0 (pa_cons (pv 0) (pa_cons (pv 3) pa_nil)))) (pg_tup (by rfl) (pgs_cons (pg_name (i := 4) nd rfl (by first | exact Or.inl rfl | exact Or.inr rfl)) (pgs_cons (pg_name (i := 5) nd rfl (by first | exact Or.inl rfl | exact Or.inr rfl)) pgs_nil)))
  (pss_one (ps_asg (pe_callB (call_min2 rfl) (by rfl) T.b_min (by decide +kernel) (pa_cons (pe_ix ix_list (pv 1) (pv 4) (fun _ _ => rfl)) (pa_cons (pe_op op_add (pe_ix ix_list (pv 1) (pv 3) (fun _ _ => rfl)) (pv 5)) pa_nil))) (pg_sub (pv 1) (pv 4) set_list))))))
  (pss_one (ps_ret (pv 1))))))), ?_⟩
    have few := G.few
    refine ⟨_, rfl, a, ns, rfl, hS, G, fun H0 s0 => ?_⟩
    refine ⟨(by show 1 ≤ sizeLine; decide), fun d nd1 => ?_⟩
    have nd0 := s0.free nd1
    have sd := s0.trans (Same.upd (o := .lst [.int 0]) nd1)
    refine ⟨_, rfl, a, _, rfl, .inl (sd.seq hS), _, _, rfl, rfl, 1, _, rfl, ⟨by decide, by decide, by omega, by rw [List.length_map]; omega⟩, ?_⟩
    have en : (((ns.map V.int).length : Int) + 1 - 1).toNat = ns.length := by
      rw [List.length_map]
      omega
    rw [en]
    refine for_it (walk_range (lo := 1)) (fun m σ H' => ∃ (v2 v3 v4 v5 : Option V), σ = [some (.ref a), some (.ref d), v2, v3, v4, v5] ∧ Same H H' ∧ H' d = some (.lst (((List.range (m + 1)).map fun k : Nat => 2 * (k : Int)).map V.int))) ⟨none, none, none, none, rfl, sd, upd_same⟩ (fun _ _ _ _ _ => True.intro) ?_ ?_
    · rintro m x σ H2 H2' hm ⟨v2, v3, v4, v5, rfl, s2, hd2⟩ ⟨rfl, rfl⟩
      refine ⟨_, rfl, .inl ⟨rfl, _, SqL.of hd2⟩, _, rfl, _, _, rfl, rfl, .inl (by constructor <;> decide), d, _, _, rfl, rfl, hd2, by rw [List.length_map, List.length_map, List.length_range, sizeLine_eq]; omega, ?_⟩
      refine ⟨_, _, _, _, rfl, Same.put s2 nd0, ?_⟩
      rw [upd_same, List.range_succ (n := m + 1), List.map_append, List.map_append]
      show some (HO.lst (_ ++ [V.int (2 * (1 + (m : Int)))])) = some (HO.lst (_ ++ [V.int (2 * ((m + 1 : Nat) : Int))]))
      rw [show (1 : Int) + (m : Int) = ((m + 1 : Nat) : Int) by omega]
    · rintro σ H2 ⟨v2, v3, v4, v5, rfl, s2, hd2⟩
      have p0 : PrIn ns 0 0 ((List.range (ns.length + 1)).map fun k : Nat => 2 * (k : Int)) := by
        refine ⟨by rw [List.length_map, List.length_range], fun k hk => ⟨2 * k, ?_, ?_, fun j d hj hjk _ => ?_⟩⟩
        · rw [List.getElem?_map, List.getElem?_range (by omega)]
          show some (2 * (k : Int)) = some ((2 * k : Nat) : Int)
          rw [show ((2 * k : Nat) : Int) = 2 * (k : Int) by omega]
        · have h := cost_two (ns.take k)
          rw [List.length_take, Nat.min_eq_left hk] at h
          exact h
        · omega
      generalize ((List.range (ns.length + 1)).map fun k : Nat => 2 * (k : Int)) = fs0 at hd2 p0
      refine ⟨_, rfl, a, _, rfl, .inl (s2.seq hS), _, rfl, by omega, by rw [List.length_map]; omega, ?_⟩
      rw [List.length_map, Int.toNat_natCast]
      refine for_it (walk_range (lo := 0)) (fun i σ H' => ∃ (v2 v3 v4 v5 : Option V) (fs : List Int), σ = [some (.ref a), some (.ref d), v2, v3, v4, v5] ∧ Same H H' ∧ H' d = some (.lst (fs.map V.int)) ∧ PrIn ns i 0 fs) ⟨v2, v3, v4, v5, fs0, rfl, s2, hd2, p0⟩ (fun _ _ _ _ _ => True.intro) ?_ ?_
      · rintro i x σ H3 H3' hi ⟨v2, v3, v4, v5, fs, rfl, s3, hd3, pi⟩ ⟨rfl, rfl⟩
        have e0 : (0 : Int) + (i : Int) = (i : Int) := by omega
        refine ⟨_, rfl, _, rfl, a, ns, i, ?_, s3.seq hS, G, hi, fun H4 p ps s4 np hp prp => ?_⟩
        · show [V.ref a, V.int (0 + (i : Int))] = _
          rw [e0]
        have ndp : d ≠ p := ne_of_none hd3 np
        have plen : ps.length = ns.length - i := by rw [Paired.length prp, roomsL_length]
        refine ⟨p, rfl, ⟨_, SqL.of hp⟩, for_it (walk_list (xs := ps)) (fun e σ H' => ∃ (v2 v4 v5 : Option V) (fs : List Int), σ = [some (.ref a), some (.ref d), v2, some (.int (0 + (i : Int))), v4, v5] ∧ Same H H' ∧ H' p = some (.lst ps) ∧ H' d = some (.lst (fs.map V.int)) ∧ Paired (PairAt K H') ps (roomsL ns i (ns.length - i)) ∧ PrIn ns i e fs) ⟨v2, v4, v5, fs, rfl, s3.trans s4, hp, s4 _ _ hd3, prp, pi⟩ (fun _ _ _ _ ⟨_, _, _, _, _, _, h, _⟩ => SqL.of h) ?_ ?_⟩
        · rintro e x σ H5 H5' he ⟨w2, w4, w5, fs, rfl, s5, hp5, hd5, prr, pe⟩ ⟨rfl, ex⟩
          have he' : e < ns.length - i := by omega
          obtain ⟨z, hz, pt, rfl, hpt⟩ := paired_at prr ex
          rw [roomsL_at he'] at hz
          obtain rfl := Option.some.inj hz
          have hpt : SqT K H5' pt [.int ((i + 1 + e : Nat) : Int), .int (lr (seg ns i (i + 1 + e)) 5 : Int)] := hpt
          obtain ⟨va, vb, ha, hb, pe'⟩ := pe.step (by omega)
          have hlen := pe.len
          refine ⟨pt, _, rfl, hpt, rfl, _, _, rfl, _, _, rfl, rfl, ?_⟩
          refine ⟨_, rfl, _, rfl, d, _, _, .int (va : Int), rfl, rfl, SqL.of hd5, atI_nat (by rw [List.getElem?_map, ha]; rfl), _, rfl, _, rfl, d, _, _, .int (vb : Int), rfl, rfl, SqL.of hd5, at_of (j := i) (by omega) (by rw [List.getElem?_map, hb]; rfl), _, rfl, _, _, rfl, rfl, _, _, rfl, ?_⟩
          refine ⟨_, rfl, _, rfl, d, _, _, i + 1 + e, rfl, rfl, hd5, ixN_nat (by rw [List.length_map]; omega), ?_⟩
          refine ⟨_, _, _, _, rfl, fun b o hb => ?_, ?_, ?_, pairs_keep prr (.lst hd5), pe'⟩
          · rw [upd_ne (ne_of_none hb nd0)]
            exact s5 _ _ hb
          · rw [upd_ne ndp.symm]
            exact hp5
          · rw [upd_same, List.map_set]
        · rintro σ H5 ⟨w2, w4, w5, fs, rfl, s5, hp5, hd5, prr, pe⟩
          rw [plen] at pe
          exact ⟨_, _, _, _, fs, rfl, s5, hd5, pe.next hi⟩
      · rintro σ H3 ⟨v2, v3, v4, v5, fs, rfl, s3, hd3, pi⟩
        exact ⟨_, rfl, k _ d fs s3 nd0 hd3 pi.done⟩
end
end K3

set_option Elab.async false
set_option linter.all false
set_option maxRecDepth 100000
set_option maxHeartbeats 4000000
/-! KX: defs called while an exception is handled, isinstance of it, its fields; a lambda handed to a def that tells refusals -/
namespace K3
open PySem PySem.Spec PyProof.Rows L2
/-! ### defs called while an exception is handled: their promise knows which -/
structure FnP (P : Program) (w : World) (K : PySem.W.Frag) (mg : Str → Option Value) (base : Heap) (CX : CXT) (k : Nat) (f : Addr) (fd : FuncData) (ps : List Str) (sp : Addr × Obj → Sp) : Prop where
  len : ∀ p vs H Q E, sp p vs H Q E → vs.length = ps.length
  run : ∀ (A : Around) (outer : List Env) (s : Shared) (H : Hp) (args : Args) (us : List Value) (vs : List V) (Q : VK) (E : XK) (p : Addr × Obj), L2H.RoomH k A → L2H.PinOk outer H s p → Env0 P w K mg base A outer s H → BindsTo s fd args (ps.zip us) → Vals vs us → sp p vs H Q E →
    codeAny (model P w) A (.call (.ref f) args) (CR CX outer P w H s Q E) s
/-- .. by its name -/
structure Fnp (P : Program) (w : World) (K : PySem.W.Frag) (mg : Str → Option Value) (base : Heap) (CX : CXT) (k : Nat) (x : Str) (ps : List Str) (sp : Addr × Obj → Sp) : Prop where
  ex : ∃ (f : Addr) (fd : FuncData), FnP P w K mg base CX k f fd ps sp ∧ mg x = some (.ref f) ∧ PySem.W.keepIn K (.ref f) = true ∧ Binds K fd ps []
section
variable {P : Program} {w : World} {K : PySem.W.Frag} {mg : Str → Option Value} {base : Heap}
theorem Df.okP {CX : CXT} {x : Str} {st : Stmt} {N ps : List Str} {k : Nat} {sp : Addr × Obj → Sp} (D : Df K mg x st ps) (S : FnScope N ps (defScope st)) (len : ∀ p vs H Q E, sp p vs H Q E → vs.length = ps.length)
    (hbody : ∀ (f : Addr) (cdv : Value) (A : Around) (outer : List Env) (s : Shared) (H : Hp) (vs : List V) (Q : VK) (E : XK) (p : Addr × Obj), L2H.RoomH k (A.deeper (envOfC x (defScope st) s.heap.objs.size f cdv)) → sp p vs H Q E →
      ∃ t, PSs (L2H.cxH CX P w K mg base N x (defScope st) f cdv A outer s H E p) (defBody st) t ∧ t { nx := fun _ H' => Q .non H', rt := Q } (start N vs) H) : Fnp P w K mg base CX (k + 1) x ps sp := by
  obtain ⟨f, fd, F, hm, hb⟩ := D.ex
  refine ⟨f, fd, ⟨len, fun A outer s H args us vs Q E p hr hpin e0 hbt r hsp => ?_⟩, hm, F.kp, hb⟩
  obtain ⟨oc, od, dV, kV, doc, pm, an, cdv, ct, osl, rfl, lk, hcd, _, _⟩ := F.ex
  have hl := len _ _ _ _ _ hsp
  have KX : K.In s.heap := e0.mod.kin.keeps fun b o e => (e0.bs b o e).1
  have lim : s.heap.NoLimit := e0.mod.nolimit.keeps fun b o e => (e0.bs b o e).1
  have hkind : ∀ y ∈ ps.zip us, (defScope st).names.lookup y.1 = some .local ∨ ((defScope st).names.lookup y.1 = some .cell ∧ ((cellsFrom (s.heap.objs.size + 1) (defScope st).names []).lookup y.1).isSome = true) := fun ⟨n, v⟩ hy => by
    rcases S.par n (List.of_mem_zip hy).1 with q | q
    · exact .inl q
    · exact .inr ⟨q, PySem.W.cellsFrom_some _ _ _ (.inl q)⟩
  refine codeAny_call_function hr.depth (KX _ _ lk) rfl S.co S.gen rfl (PySem.W.codeRec_of KX hcd) (hbt _ _ _ _ ?_)
  refine wpAny_newFunctionEnv_cells S.kind hkind fun env he s1 xc => ?_
  subst he
  refine ⟨lim.keeps xc.toInCall.keep, codeAny_func ?_⟩
  obtain ⟨t, ht, hq⟩ := hbody f cdv A outer s H vs Q E p (hr.deeper _) hsp
  have I : Inv (L2H.cxH CX P w K mg base N x (defScope st) f cdv A outer s H E p) [] (L2.start N vs) H s1 := L2H.inv_startH S hpin e0 hl r xc
  refine wpAny_mono (ht.run [] s1 (L2.start N vs) H _ I hq) (fun fl s' hs => ?_) fun e s' hs => hs
  have fin : ∀ {σ' : L2.St} {H' : Hp} {v : V} {u : Value}, Inv (L2H.cxH CX P w K mg base N x (defScope st) f cdv A outer s H E p) [] σ' H' s' → RelV v u → Q v H' → CE outer P w H s Q u s' :=
    fun {σ' H' v u} J rv q => ⟨v, H', J.os, J.bare, J.base, J.hok, rv, q⟩
  cases fl with
  | ret u =>
    obtain ⟨v, σ', H', J, rv, q⟩ := hs
    exact fin J rv q
  | next =>
    obtain ⟨σ', H', J, q⟩ := hs
    exact fin (v := V.non) (u := Value.none) J rfl q
  | brk =>
    obtain ⟨_, _, _, q⟩ := hs
    exact False.elim q
  | cont =>
    obtain ⟨_, _, _, q⟩ := hs
    exact False.elim q
end
section
variable {X : Cx} {CX : CXT} {k : Nat} {ps : List Str} {sp : Addr × Obj → Sp} {E : L2.St → XK} {x : Str} {q pos : Pos} {e : Expr} {es : List Expr} {t : TA} {p : Addr × Obj}
/-- a call of such a def, where p is pinned -/
theorem pe_cP (F : Fnp X.prog X.w X.K X.mg X.base CX k x ps sp) (hr : L2H.RoomH k X.A) (hp : p ∈ X.pn) (hx : ∀ σ, PassesAt CX X σ (E σ)) (ha : PA X (e :: es) t) (hg : Gl X x := by rfl)
    (hdb : (x == ("__debug__" : Str)) = false := by decide) (he : starEach (e :: es) X.env = (false, eval e X.env) :: starEach es X.env := by rfl) (hpl : (backTo pos (starEach es X.env)).any (·.1) = false := by rfl) :
    PE X (.Call (.Name x q) (e :: es) [] pos) (tCallS (sp p) E t) := by
  obtain ⟨f, fd, G, hm, hk, hb⟩ := F.ex
  refine ⟨fun pins s σ H Q I h => ?_⟩
  refine wpAny_Call_Name_kw (ld_glob I hg hm ?_ hdb)
  refine PySem.W.callWith_K (h₀ := X.base) I.ok.mod.kin hk (thn (ha.run pos pins s σ H _ I h) fun us s1 ⟨vs, H1, I1, r, hq⟩ => ⟨I1.kIn, ?_⟩) he hpl
  have hl : us.length = ps.length := by rw [← r.length]; exact G.len _ _ _ _ _ hq
  have b := hb s1 us I1.kIn (by rw [List.append_nil]; exact hl)
  rw [List.append_nil] at b
  have P1 := I1.pin p (List.mem_append_left _ hp)
  have hpin : L2H.PinOk X.stack H1 s1 p := ⟨P1.1, P1.2.1, fun hm => (List.mem_cons.mp (I1.stkSub p.1 hm)).elim P1.2.2.1 P1.2.2.2.1, P1.2.2.2.2⟩
  refine wpAny_call (codeAny_mono (G.run X.A X.stack s1 H1 ⟨us, []⟩ us vs Q (E σ) p hr hpin I1.env0 b r hq) fun r s' hq => ?_)
  cases r with
  | error e => exact hx σ pins H1 s1 e s' I1 hq
  | ok fl =>
    cases fl with
    | ret u => exact I1.after hq
    | next => exact False.elim hq
    | brk => exact False.elim hq
    | cont => exact False.elim hq
end
/-! ### isinstance(e, c), e pinned -/
def rIsP (K : PySem.W.Frag) (D a : Addr) (d : Option Addr) : List V → Hp → VK → Prop := fun xs H Q => ∃ (c : V) (cv : Value) (b : Bool), xs = [.ref a, c] ∧ (∀ u, RelV c u → u = cv) ∧ PySem.W.kitOne K (.ref D) cv = some b ∧ (∀ dd, d = some dd → ∃ fs, H dd = some (.xd fs)) ∧ Q (.bl b) H
theorem call_isP {X : Cx} {a D : Addr} {oe : Obj} {d : Option Addr} (hp : (a, oe) ∈ X.pn) (C : L2.ExcC X.K D) (hz : Zc (.ref D) d oe) (hf : ∃ vs, oe.data = .fields vs) : CallR X (.builtin "isinstance") (rIsP X.K D a d) := by
  intro pins s σ H xs us Q I r h
  obtain ⟨c, cv, b, rfl, hcv, e, hd, q⟩ := h
  cases r with
  | cons rx rr =>
    cases rr with
    | cons rt rr =>
      cases rr
      cases rx
      have ec := hcv _ rt
      subst ec
      obtain ⟨hget, _⟩ := I.pin (a, oe) (List.mem_append.mpr (.inl hp))
      obtain ⟨vs, hv⟩ := hf
      have J : ∃ od, PySem.W.InstAt s.heap a oe D od := by
        obtain ⟨oc, odd, oda, osl⟩ := oe
        obtain ⟨h1, h2⟩ := hz
        dsimp only at h1 h2 hv
        subst h1 h2 hv
        cases odd with
        | none => exact ⟨none, hget, rfl, rfl, trivial⟩
        | some dd =>
          obtain ⟨fs, hfs⟩ := hd dd rfl
          have hx : ObjOk X.prog X.w H s.heap dd (.xd fs) := I.hok dd _ hfs
          obtain ⟨mA, hns, hr⟩ := hx
          obtain ⟨o, ho, _⟩ := lookIn_ns hns
          exact ⟨some o, hget, rfl, rfl, ho⟩
      obtain ⟨od, J⟩ := J
      have hcl : (PySem.W.clsIn X.K D).isSome = true := by
        obtain ⟨cd, hc, _⟩ := PySem.W.any_some C.hd
        rw [hc]
        rfl
      exact PySem.W.kia_one (PySem.W.kitx_exc (od := od) hcl C.hg C.hk C.hs C.ha C.hn C.ht C.hm) I.kIn J e (fun z => nomatch z) fun tk => ⟨.bl b, H, I.kept (t' := tk) fun _ _ z => z, rfl, q⟩
/-! ### list.count of flat values -/
def rCntV (K : PySem.W.Frag) : V → List V → Hp → VK → Prop := fun x xs H Q => ∃ (p : Addr) (ys : List V) (y : V), x = .ref p ∧ xs = [y] ∧ SqL K H p ys ∧ flatV y = true ∧ ys.all flatV = true ∧ Q (.int ((ys.countP fun z => eqV z y : Nat) : Int)) H
theorem countV {y : V} : ∀ {ys : List V} {us : List Value}, Vals ys us → ys.all flatV = true → us.countP (eqU y) = ys.countP fun z => eqV z y
  | _, _, .nil, _ => rfl
  | z :: ys, u :: us, .cons r t, f => by
    rw [List.all_cons, Bool.and_eq_true] at f
    have ih := countV (y := y) t f.2
    rw [List.countP_cons, List.countP_cons, ih, eqU_of r f.1]
theorem mt_lcountV {X : Cx} : MtR X "list.count" (rCntV X.K) := by
  intro pins s σ H x xs v us Q I rx rxs h
  obtain ⟨p, ys, y, rfl, rfl, hs, fy, fys, q⟩ := h
  cases rx
  cases rxs with
  | cons ry rt =>
    rename_i uy ut
    cases rt
    obtain ⟨its, rv, ⟨⟨cls, dd, data, sl⟩, n, ho, hc, hdn, hd⟩, hlen⟩ := I.list hs
    simp only at hc hd
    subst hc hd
    refine call_meets PySem.F.slot_list_count ⟨_, ho, rfl⟩ PySem.F.entry_list_count (PySem.F.args_list_count_2 _ _)
      (SeqAt.list_countAt p its.toArray n dd sl uy (eqU y)) ⟨ho, fun u hu => mem_eqAt ry fy rv fys u (by simpa using hu), ?_⟩
    have ec : its.toArray.toList.countP (eqU y) = ys.countP fun z => eqV z y := countV rv fys
    refine ⟨.int ((ys.countP fun z => eqV z y : Nat) : Int), H, I.tok _, ⟨s.toks, ?_⟩, q⟩
    show Value.int ((its.toArray.toList.countP (eqU y) : Nat) : Int) s.toks = Value.int ((ys.countP fun z => eqV z y : Nat) : Int) s.toks
    rw [ec]
/-! ### e.f in an except suite, whichever class it is -/
def tXfA (K : PySem.W.Frag) (a : Addr) (cls : Value) (d : Option Addr) (f : Str) (te : TE) : TE := fun σ H Q => te σ H fun x H1 => x = .ref a ∧ ∃ (C dd : Addr) (fs : List (Str × V)) (v : V), XfC K C ∧ PySem.W.findIn K (.ref C) f = some none ∧ cls = .ref C ∧ d = some dd ∧ H1 dd = some (.xd fs) ∧ fs.lookup f = some v ∧ Q v H1
theorem pe_xfA {X : Cx} {a : Addr} {oe : Obj} {cls : Value} {d : Option Addr} {pn : List (Addr × Obj)} {e : Expr} {te : TE} {pos : Pos} {n : Str}
    (hz : Zc cls d oe) (hf : ∃ vs, oe.data = .fields vs) (he : PE (X.suite a ((a, oe) :: pn)) e te) (hb : attributeBase e n X.env (eval e X.env) = eval e X.env := by rfl) :
    PE (X.suite a ((a, oe) :: pn)) (.Attribute e n pos) (tXfA X.K a cls d n te) := by
  refine ⟨fun pins s σ H Q I h => ?_⟩
  refine attr_of hb (thn (he.run pins s σ H _ I h) fun u s1 hh => ?_)
  obtain ⟨x, H1, I1, rx, ex, C, dd, fs, v, T, hno, ec, ed, ea, l, q⟩ := hh
  subst ex
  obtain rfl : u = Value.ref a := rx
  subst ec
  subst ed
  obtain ⟨ha, _⟩ := I1.pin (a, oe) (List.mem_append_left _ List.mem_cons_self)
  obtain ⟨vs, hd⟩ := hf
  have hx : ObjOk X.prog X.w H1 s1.heap dd (.xd fs) := I1.hok dd _ ea
  obtain ⟨mA, hns, hr⟩ := hx
  obtain ⟨od, ho, hl⟩ := lookIn_ns hns
  obtain ⟨u, hu, ru⟩ := RelO.some_of (v := v) (o := mA n) (by rw [← l]; exact hr n)
  have J : PySem.W.InstAt s1.heap a oe C (some od) := ⟨ha, hz.1, by unfold PySem.W.notCls; rw [hd] <;> rfl, by rw [hz.2]; exact ho⟩
  exact HandSPX.exc_get I1.kIn J T.ga T.gg T.exC (PySem.W.findObj_own T.hdC hno rfl (by rw [hl, hu])) (handed_of ru) ⟨v, H1, I1.tok _, ru, q⟩
/-! ### x(lambda: body), x a def that calls what it got -/
section
variable {X : Cx} {pins : List (Addr × Obj)} {σ : L2.St} {H HZ : Hp} {s s1 : Shared}
/-- x(), in the def that got the lambda; what it lets out is what is wished at the slots there -/
theorem pe_actS {CXg : CXT} {Eg : XK} {Ng : List Str} {qg : Str} {sg : Scope} {g f c' : Addr} {cdg pm ctv : Value} {params : Arguments} {body : Expr} {scope : Scope} {k i : Nat} {a : Str} {pn : List (Addr × Obj)} {xe : Value → Shared → Prop} {W : WX} {tb : XK → TE} {p1 p2 : Pos}
    (I : Inv X pins σ H s) (L : LamX.LamS X.env.scope scope) (hf : s.heap.get? f = some (PySem.W.kla_obj "<lambda>" (X.env.qual ++ "<lambda>") params body scope (cloFrom X.env.cells scope.names []) pm c' ctv)) (hfn : H f = none) (hfr : f ∉ frs X.stack)
    (hbind : bindArgs (PySem.W.kla_fn "<lambda>" (X.env.qual ++ "<lambda>") params body scope (cloFrom X.env.cells scope.names []) pm (.ref c') ctv) ⟨[], []⟩ = pure [])
    (tk : Takes ((cxOf CXg X.prog X.w X.K X.mg X.base Ng qg sg g cdg X.A X.stack s H Eg).tr pn xe) W) (hr : Room (k + 1) (X.A.deeper (envOfC qg sg s.heap.objs.size g cdg)))
    (hbody : ∀ (A : Around) (outer : List Env) (s : Shared) (H : Hp) (E : XK), Room k (A.deeper (LamX.lamEnv X scope s.heap.objs.size f c')) → PE (LamX.lamCx X A outer s H E scope f c') body (tb E))
    (hN : Ng[i]? = some a) (hv : Vis sg a) (hd : (a == ("__debug__" : Str)) = false := by decide) (hcd : (a == ("__classdict__" : Str)) = false := by decide) :
    PE ((cxOf CXg X.prog X.w X.K X.mg X.base Ng qg sg g cdg X.A X.stack s H Eg).tr pn xe) (.Call (.Name a p1) [] [] p2)
      (fun σZ HZ Q => σZ[i]? = some (some (.ref f)) ∧ HZ c' = some (LamX.CodeO c' (X.env.qual ++ "<lambda>")) ∧ tb (WE W σZ) σ HZ Q) := by
  refine ⟨fun pinsZ sZ σZ HZ Q IZ h => ?_⟩
  obtain ⟨hs, hc, ht⟩ := h
  refine wpAny_Call_Name_kw (thn ((pe_var (pos := p1) (i := i) hN hv hd hcd).run pinsZ sZ σZ HZ (fun v H1 => v = .ref f ∧ H1 = HZ) IZ ⟨.ref f, hs, rfl, rfl⟩) fun u s1 ⟨v, H1, I1, r1, q1⟩ => ?_)
  obtain ⟨ev, eH⟩ := q1
  subst ev
  rw [eH] at I1
  obtain rfl : u = Value.ref f := r1
  have of1 : s1.heap.get? f = some (PySem.W.kla_obj "<lambda>" (X.env.qual ++ "<lambda>") params body scope (cloFrom X.env.cells scope.names []) pm c' ctv) := I1.base.keep f _ hf hfn hfr (fun z => nomatch (show f ∈ ([] : List Addr) from z))
  refine PySem.W.callWith_F0 ⟨_, _, _, _, of1⟩ ?_
  have un : Un (frs X.stack) [] H HZ s.heap s1.heap := I1.base
  obtain ⟨⟨oc, vs, t, hoc, hdc, hvc⟩, _, _⟩ := I1.hok c' _ hc
  have rc : codeAny (model X.prog X.w) (X.A.deeper (envOfC qg sg s.heap.objs.size g cdg)) (.call (.ref f) ⟨[], []⟩) (CR (L2.CX X.prog X.w) (envOfC qg sg s.heap.objs.size g cdg :: X.stack) X.prog X.w HZ s1 Q (WE W σZ)) s1 := by
    refine PySem.W.kla_callFunE hr.depth of1 rfl L.co L.gen rfl ⟨c', oc, vs, t, rfl, hoc, hdc, hvc⟩ ?_
    rw [hbind]
    refine wpAny_pure (wpAny_newFunctionEnv (fun y hy => (L.own y hy).2) (fun y hy => absurd hy (by simp)) (fun h₁ hns hsb => ⟨I1.nolimit.fresh _ hsb, ?_⟩) L.kind)
    show codeAny _ _ (.expr body (LamX.lamEnv X scope s1.heap.objs.size f c')) _ _
    have kp : ∀ b o, s1.heap.get? b = some o → h₁.get? b = some o := fun b o e => hsb.extBut b o (Nat.ne_of_lt (Heap.lt_size e)) (Heap.get?_push_of_some _ e)
    have J : Inv (LamX.lamCx X (X.A.deeper (envOfC qg sg s.heap.objs.size g cdg)) (envOfC qg sg s.heap.objs.size g cdg :: X.stack) s1 HZ (WE W σZ) scope f c') [] σ HZ { s1 with heap := h₁, toks := s1.toks + ([] : List (Str × Value)).length } :=
      LamX.lam_start2 I L I1.env0 hr.hd un hns kp
    refine PySem.W.kla_codeExpr (wpAny_mono ((hbody _ _ s1 HZ (WE W σZ) (hr.deeper _)).run [] _ _ HZ Q J ht) (fun v s' hq => ?_) fun e s' hq => hq)
    obtain ⟨w', H', J', rv, q⟩ := hq
    exact ⟨w', H', J'.os, J'.bare, J'.base, J'.hok, rv, q⟩
  have hx : PassesAt (L2.CX X.prog X.w) ((cxOf CXg X.prog X.w X.K X.mg X.base Ng qg sg g cdg X.A X.stack s H Eg).tr pn xe) σZ (WE W σZ) := passAt tk σZ
  refine wpAny_call (codeAny_mono rc fun r s' hq => ?_)
  cases r with
  | error e => exact hx pinsZ HZ s1 e s' I1 hq
  | ok fl =>
    cases fl with
    | ret u => exact I1.after hq
    | next => exact False.elim hq
    | brk => exact False.elim hq
    | cont => exact False.elim hq
end

def GivesR (X : Cx) (Ng : List Str) (x : Str) (sg : Scope) (g : Addr) (cdg : Value) (bg : List Stmt) (a : Str) (q : Str) (k : Nat) (TT : (XK → Hp → VK → Prop) → Hp → VK → Prop) : Prop :=
  ∀ (f c' : Addr) (s : Shared) (H : Hp) (Q : VK) (tl : XK → Hp → VK → Prop), Room k (X.A.deeper (envOfC x sg s.heap.objs.size g cdg)) →
    (∀ (W : WX) (pn : List (Addr × Obj)) (xe : Value → Shared → Prop) (p1 p2 : Pos), Takes ((cxOf C8.CX0 X.prog X.w X.K X.mg X.base Ng x sg g cdg X.A X.stack s H C8.E0).tr pn xe) W →
      PE ((cxOf C8.CX0 X.prog X.w X.K X.mg X.base Ng x sg g cdg X.A X.stack s H C8.E0).tr pn xe) (.Call (.Name a p1) [] [] p2) (fun σZ HZ Q => σZ[0]? = some (some (.ref f)) ∧ HZ c' = some (LamX.CodeO c' q) ∧ tl (WE W σZ) HZ Q)) →
    H c' = some (LamX.CodeO c' q) → TT tl H Q →
    ∃ t, PSs (cxOf C8.CX0 X.prog X.w X.K X.mg X.base Ng x sg g cdg X.A X.stack s H C8.E0).nox bg t ∧ t { nx := fun _ H' => Q .non H', rt := Q } (L2.start Ng [.ref f]) H
section
variable {X : Cx}
theorem pe_lamR {T : List (Addr × Str)} {TT : (XK → Hp → VK → Prop) → Hp → VK → Prop} {x a : Str} {g c P : Addr} {k : Nat} {pg : Arguments} {bg : List Stmt} {sg : Scope} {dV kV doc pm cdv ct oc : Value} {an od : Option Addr} {osl : Array (Option Value)} {Ng : List Str}
    {params : Arguments} {body : Expr} {scope : Scope} {t : XK → TE} {p lpos pos : Pos} (hg : Gl X x) (hm : X.mg x = some (.ref g)) (hk : PySem.W.keepIn X.K (.ref g) = true)
    (lk : X.K.lookup g = some ⟨oc, od, .func (PySem.W.fnOf x x pg bg sg dV kV doc pm an cdv ct), osl⟩) (hcg : PySem.W.codeIn X.K cdv x = true) (hb : L2.Binds X.K (PySem.W.fnOf x x pg bg sg dV kV doc pm an cdv ct) [a] []) (Sg : FnScope Ng [a] sg) (hNg : Ng[0]? = some a) (hva : Vis sg a)
    (hG : GivesR X Ng x sg g cdv bg a (X.env.qual ++ "<lambda>") (k + 1) TT)
    (TB : LamX.TabB X.base X.mg c P) (hcode : X.env.code = .ref c) (hmT : (P, X.env.qual ++ "<lambda>") ∈ T) (hu : ∀ p ∈ T, p.1 = P → p.2 = X.env.qual ++ "<lambda>") (hr : Room (k + 2) X.A) (L : LamX.LamS X.env.scope scope) (hdef : defaultsOf params X.env = ([], []))
    (hbind : ∀ (q : Str) (cl : List (Str × Addr)) (pm cv ctv : Value), bindArgs (PySem.W.kla_fn "<lambda>" q params body scope cl pm cv ctv) ⟨[], []⟩ = pure [])
    (hbody : ∀ (A : Around) (outer : List Env) (s : Shared) (H : Hp) (E : XK) (f c' : Addr), Room k (A.deeper (LamX.lamEnv X scope s.heap.objs.size f c')) → PE (LamX.lamCx X A outer s H E scope f c') body (t E))
    (hdb : (x == ("__debug__" : Str)) = false := by decide) (hd : (a == ("__debug__" : Str)) = false := by decide) (hcd : (a == ("__classdict__" : Str)) = false := by decide) :
    PE X (.Call (.Name x p) [.Lambda params body scope lpos] [] pos) (LamX.tLam T TT t) := by
  refine ⟨fun pins s σ H Q I h => ?_⟩
  obtain ⟨hT, h⟩ := h
  refine wpAny_Call_Name_kw (ld_glob I hg hm ?_ hdb)
  refine PySem.W.callWith_K (h₀ := X.base) I.ok.mod.kin hk ?_ (by rfl) (by rfl)
  show wpAny _ _ (spliced ((false, eval (.Lambda params body scope lpos) X.env) :: backTo pos (starEach [] X.env))) _ _ s
  refine Calls.spliced_cons (LamX.lam_make2 I TB hcode hmT hu hT hdef (L.has I.ok) fun f c' pm' ctv H1 s' I1 eN T1 hf hfn hfr hco => ?_)
  refine Calls.spliced_nil ⟨I1.kIn, ?_⟩
  have rc : codeAny (model X.prog X.w) X.A (.call (.ref g) ⟨[.ref f], []⟩) (CR C8.CX0 X.stack X.prog X.w H1 s' Q C8.E0) s' := by
    refine LamX.run_ofS (N := Ng) (ps := [a]) (us := [.ref f]) (vs := [.ref f]) lk hcg Sg hr I1.env0 (hb s' [.ref f] I1.kIn rfl) (.cons rfl .nil) rfl fun hr' => ?_
    obtain ⟨t', ht', hq'⟩ := hG f c' s' H1 Q (fun E H' Q' => t E σ H' Q') hr' (fun W pn xe p1 p2 tk => pe_actS (i := 0) I1 L hf hfn hfr (hbind _ _ _ _ _) tk hr' (fun A outer s H E hr2 => hbody A outer s H E f c' hr2) hNg hva hd hcd) hco (h H1 eN T1)
    exact ⟨t', ht'.nox, hq'⟩
  refine wpAny_call (codeAny_mono rc fun r s2 hq => ?_)
  cases r with
  | error e => exact (show False from hq).elim
  | ok fl =>
    cases fl with
    | ret u => exact I1.after hq
    | next => exact False.elim hq
    | brk => exact False.elim hq
    | cont => exact False.elim hq
end
/-! ### texts of refusals -/
theorem int_log {i : Int} (h : i.natAbs < 2 ^ 64) : i.natAbs.log2 < 1920 := by
  by_cases z : i.natAbs = 0
  · rw [z]
    decide
  · have := (Nat.log2_lt z).mpr h
    omega
theorem int_len {i : Int} (h : i.natAbs < 2 ^ 64) : (Str.ofString (toString i)).length ≤ 1921 := PyProof.Rows.int_text_len_1921 (int_log h)
theorem str_add {a b : Str} {n m : Nat} (ha : a.length ≤ n) (hb : b.length ≤ m) : (a ++ b).length ≤ n + m := by
  rw [PySem.Str.length_append]
  omega
theorem str_fits {a : Str} {n : Nat} (h : a.length ≤ n) (hn : n ≤ 100000) : a.length ≤ sizeLine := by
  rw [sizeLine_eq]
  omega
/-! ### tables of code objects -/
theorem tabs_to {T : List (Addr × Str)} {H H' : Hp} (t : LamX.Tabs T H) (e : ∀ b o, H b = some o → ((∃ ps, o = .tbl ps) ∨ ∃ c q, o = LamX.CodeO c q) → H' b = some o) : LamX.Tabs T H' := fun p hp => by
  obtain ⟨ps, h1, h2, h3⟩ := t p hp
  refine ⟨ps, e _ _ h1 (.inl ⟨ps, rfl⟩), h2, fun pos cv hc => ?_⟩
  obtain ⟨c, e1, e2⟩ := h3 pos cv hc
  exact ⟨c, e1, e _ _ e2 (.inr ⟨c, p.2, rfl⟩)⟩
theorem tabs_put {T : List (Addr × Str)} {H : Hp} {p : Addr} {o0 o : HO} (t : LamX.Tabs T H) (h : H p = some o0) (n1 : ∀ ps, HO.tbl ps ≠ o0) (n2 : ∀ c q, LamX.CodeO c q ≠ o0) : LamX.Tabs T (upd H p o) := tabs_to t fun b u e k => by
  rw [upd_ne fun z => ?_]
  · exact e
  · rw [z, h] at e
    have e2 := Option.some.inj e
    rcases k with ⟨ps, z2⟩ | ⟨c, q, z2⟩
    · exact n1 ps (z2.symm.trans e2.symm)
    · exact n2 c q (z2.symm.trans e2.symm)
theorem code_lst {c : Addr} {q : Str} {xs : List V} : LamX.CodeO c q ≠ .lst xs := fun z => by
  unfold LamX.CodeO at z
  cases z
theorem code_dK {c : Addr} {q : Str} {kvs : List (Key × V)} : LamX.CodeO c q ≠ .dK kvs := fun z => by
  unfold LamX.CodeO at z
  cases z
theorem code_ins {c C : Addr} {q : Str} {dx : Addr} {fs : List (Str × V)} : LamX.CodeO c q ≠ .ins C dx fs := fun z => by
  unfold LamX.CodeO at z
  cases z
theorem tabs_same {T : List (Addr × Str)} {H H' : Hp} (t : LamX.Tabs T H) (s : Same H H') : LamX.Tabs T H' := t.ext s
theorem extN_same {H H' : Hp} (s : Same H H') : LamX.ExtN H H' := .of s
theorem _root_.LamX.ExtN.lst {H H' : Hp} (e : LamX.ExtN H H') {p : Addr} {xs : List V} (h : H p = some (.lst xs)) : H' p = some (.lst xs) := e _ _ h fun _ z => by cases z
theorem _root_.LamX.ExtN.seqT {K : PySem.W.Frag} {H H' : Hp} {a : Addr} {xs : List V} (e : LamX.ExtN H H') (h : SqT K H a xs) : SqT K H' a xs := by
  rcases h with (h | ⟨o, h⟩) | h
  · exact .inl (.inl (e _ _ h fun _ z => by cases z))
  · exact .inl (.inr ⟨o, e _ _ h fun _ z => by cases z⟩)
  · exact .inr h
theorem _root_.LamX.ExtN.seqL {K : PySem.W.Frag} {H H' : Hp} {a : Addr} {xs : List V} (e : LamX.ExtN H H') (h : SqL K H a xs) : SqL K H' a xs := by
  rcases h with (h | ⟨o, h⟩) | h
  · exact .inl (.inl (e _ _ h fun _ z => by cases z))
  · exact .inl (.inr ⟨o, e _ _ h fun _ z => by cases z⟩)
  · exact .inr h
section
variable {P : Program} {w : World} {K : PySem.W.Frag} {mg : Str → Option Value} {base : Heap}
/-- THE RULE for a def whose code object is at c -/
theorem okT {x : Str} {st : Stmt} {N ps : List Str} {k : Nat} {sp : Sp} {f c : Addr} {fd : FuncData} (F : FunD K x x (defArgs st) (defBody st) (defScope st) [] [] f fd) (hc : fd.code = .ref c) (S : FnScope N ps (defScope st)) (len : ∀ vs H Q E, sp vs H Q E → vs.length = ps.length)
    (hbody : ∀ (A : Around) (outer : List Env) (s : Shared) (H : Hp) (vs : List V) (Q : VK) (E : XK), Room k (A.deeper (envOfC x (defScope st) s.heap.objs.size f (.ref c))) → sp vs H Q E →
      ∃ t, PSs (cxOf CX0 P w K mg base N x (defScope st) f (.ref c) A outer s H E).nox (defBody st) t ∧ t { nx := fun _ H' => Q .non H', rt := Q } (start N vs) H) : FnOk P w K mg base CX0 (k + 1) f fd ps sp := by
  obtain ⟨oc, od, dV, kV, doc, pm, an, cdv, ct, osl, rfl, lk, hcd, _, _⟩ := F.ex
  have e : cdv = .ref c := hc
  subst e
  exact fn_of lk hcd S len fun A outer s H vs Q E hr hsp => by
    obtain ⟨t, h, q⟩ := hbody A outer s H vs Q E hr hsp
    exact ⟨t, h.nox, q⟩
end
/-- the end of a law with tables, the written part given by F -/
theorem walk_ofTE {l : PySem.W.OpenLaw} {n k : Nat} {q : Program} {loose : List Str} {XP : (Str → Option Value) → Heap → Prop} {YP : World → Heap → Prop} {d : DefRec} {CX : World → CXT} {x : Str}
    (hn : l.most = some n) (hn2 : n ≤ sizeLine) (hdf : d.params.defaults = []) (hr : Room k callerA)
    (F : ∀ (w : World) (mg : Str → Option Value) (fa : Addr) (h : Heap), YP w h → h.Ns mainGlobals mg → mg d.name = some (.ref fa) → ∃ K : PySem.W.Frag, K.In h ∧ LamX.LawAtS l w K (CX w) k n x mg fa h)
    (hCX : ∀ (w : World) (H : Hp) (s : Shared) (e : Value) (s' : Shared), CX w [] H s (fun _ _ _ => False) e s' → False) :
    PySem.W.WalkO q loose XP YP l.row.toRowW d [] (fun f vs => PySem.call f vs) := by
  refine Att.attach_callB hn hdf fun w s₀ s₁ mg mb fa o pm cd doc a vs ns G Y ho hd hcd hmg hobj hints hlen hbits hg => ?_
  obtain ⟨K, KX, fd, cs, sp, hT, nT, C, hb, hsp, hF⟩ := F w mg fa _ Y G.T.g hmg
  exact LamX.law_callTs KX G.T.g G.T.b G.T.builtins G.T.nolimit hg hT nT C G.T.bmain hobj hints (Nat.le_trans hlen hn2) hr hF hb (fun H hH hS => hsp H a ns hlen hbits hH hS) fun H e s' => hCX w H s₁ e s'
theorem tabs_start {cs : List (Addr × Addr)} {T : List (Addr × Str)} {H : Hp} (hT : ∀ p ∈ cs, H p.2 = some (.tbl #[])) (hs : ∀ q ∈ T, ∃ p ∈ cs, p.2 = q.1) : LamX.Tabs T H := fun q hq => by
  obtain ⟨p, hp, e⟩ := hs q hq
  exact LamX.TabS.nil (e ▸ hT p hp)
end K3

set_option Elab.async false
set_option linter.all false
set_option maxRecDepth 100000
set_option maxHeartbeats 4000000
/-! KY: the name of a refusal's class; what is told, or the refusal -/
namespace K3
open PySem PySem.Spec PyProof.Rows L2
structure TxtE (mg : Str → Option Value) : Prop where
  b_ValueError : mg "ValueError" = none
def cnms : List Str := ["BadNumber", "BadValues", "NoForm", "BadPrices", "BadKinds", "BadRows", "BadCondition", "BadColumn", "BadHeap", "TooMany", "BadBlock", "Stopped", "BadText"]
def cnm (i : Nat) : Str := cnms.getD i Str.empty
/-- the classes of refusals: theirs is at cs i, ColumnError at CE -/
structure Kinds (K : PySem.W.Frag) (mg : Str → Option Value) (cs : Nat → Addr) (CE : Addr) : Prop where
  g : ∀ i, i < 13 → mg (cnm i) = some (.ref (cs i))
  c : ∀ i, i < 13 → L2.ExcC K (cs i)
  k : ∀ i j, i < 13 → j < 13 → PySem.W.kitOne K (.ref (cs i)) (.ref (cs j)) = some (decide (i = j))
  v : ∀ i, i < 13 → PySem.W.kitOne K (.ref (cs i)) (.type "ValueError") = some true
  m : ∀ i, i < 13 → PySem.W.exmOne K (.ref (cs i)) (.ref CE) = some true
  ge : mg "ColumnError" = some (.ref CE)
  xf : ∀ i, i = 1 ∨ i = 5 ∨ i = 12 → XfC K (cs i) ∧ PySem.W.findIn K (.ref (cs i)) "place" = some none
def kb (i n : Nat) : List V := (List.range n).map fun j => V.bl (decide (i = j))
theorem kb_flat (i n : Nat) : (kb i n).all flatV = true := by
  unfold kb
  rw [List.all_map]
  exact List.all_eq_true.mpr fun _ _ => rfl
theorem kb_at {i j n : Nat} (h : j < n) : (kb i n)[j]? = some (.bl (decide (i = j))) := by
  unfold kb
  rw [List.getElem?_map, List.getElem?_range h]
  rfl
theorem kb_count : ∀ i, i < 13 → (kb i 13).countP (fun z => eqV z (.bl true)) = 1 := by decide
theorem cnm_at : ∀ {i : Nat}, i < 13 → (cnms.map V.str)[i]? = some (.str (cnm i)) := fun {i} h => by
  unfold cnm
  have hl : i < cnms.length := h
  rw [List.getElem?_map, List.getD_eq_getElem?_getD, List.getElem?_eq_getElem hl]
  rfl
section
variable {P : Program} {w : World} {K : PySem.W.Frag} {mg : Str → Option Value} {base : Heap}
abbrev s__law_class : Stmt := top 48
abbrev N__law_class : List Str := ["_law_e", "_law_kinds", "_law_words"]
abbrev P__law_class : List Str := ["_law_e"]
theorem sc__law_class : FnScope N__law_class P__law_class (defScope s__law_class) := ⟨rfl, rfl, rfl, by decide +kernel, rfl, by decide +kernel, by decide +kernel⟩
def spClass (K : PySem.W.Frag) (cs : Nat → Addr) : Addr × Obj → Sp := fun p vs H Q _ => ∃ (i : Nat) (d : Option Addr), i < 13 ∧ vs = [.ref p.1] ∧ Zc (.ref (cs i)) d p.2 ∧ (∃ fl, p.2.data = .fields fl) ∧ (∀ dd, d = some dd → ∃ fs, H dd = some (.xd fs)) ∧ ∀ H', Same H H' → Q (.str (cnm i)) H'
theorem ok_class {cs : Nat → Addr} {CE : Addr} (T : Txt mg) (TE : TxtE mg) (KS : Kinds K mg cs CE) (D : Df K mg "_law_class" s__law_class P__law_class) : Fnp P w K mg base CX0 1 "_law_class" P__law_class (spClass K cs) := by
  refine D.okP sc__law_class (fun p vs H Q E h => ?_) (fun f cdv A outer s H vs Q E p hr h => ?_)
  · obtain ⟨i, d, _, rfl, _⟩ := h
    rfl
  · obtain ⟨i, d, hi, rfl, hz, hf, hd, k⟩ := h
    have nd := sc__law_class.nd
    have keep : ∀ {H1}, Same H H1 → ∀ dd, d = some dd → ∃ fs, H1 dd = some (.xd fs) := fun {H1} s dd e => by
      obtain ⟨fs, h⟩ := hd dd e
      exact ⟨fs, s _ _ h⟩
    refine ⟨_, (pss_cons (ps_set (i := 1) nd rfl (by first | exact Or.inl rfl | exact Or.inr rfl) (pe_lst (pa_cons (pe_callB (call_isP List.mem_cons_self (KS.c i hi) hz hf) (by rfl) T.b_isinstance (by decide +kernel) (pa_cons (pv 0) (pa_cons (pe_glob (v := .ref (cs 0)) (by rfl) (KS.g 0 (by decide)) rfl) pa_nil))) (pa_cons (pe_callB (call_isP List.mem_cons_self (KS.c i hi) hz hf) (by rfl) T.b_isinstance (by decide +kernel) (pa_cons (pv 0) (pa_cons (pe_glob (v := .ref (cs 1)) (by rfl) (KS.g 1 (by decide)) rfl) pa_nil))) (pa_cons (pe_callB (call_isP List.mem_cons_self (KS.c i hi) hz hf) (by rfl) T.b_isinstance (by decide +kernel) (pa_cons (pv 0) (pa_cons (pe_glob (v := .ref (cs 2)) (by rfl) (KS.g 2 (by decide)) rfl) pa_nil))) (pa_cons (pe_callB (call_isP List.mem_cons_self (KS.c i hi) hz hf) (by rfl) T.b_isinstance (by decide +kernel) (pa_cons (pv 0) (pa_cons (pe_glob (v := .ref (cs 3)) (by rfl) (KS.g 3 (by decide)) rfl) pa_nil))) pa_nil))))))
  (pss_cons (ps_set (i := 1) nd rfl (by first | exact Or.inl rfl | exact Or.inr rfl) (pe_op op_cat (pv 1) (pe_lst (pa_cons (pe_callB (call_isP List.mem_cons_self (KS.c i hi) hz hf) (by rfl) T.b_isinstance (by decide +kernel) (pa_cons (pv 0) (pa_cons (pe_glob (v := .ref (cs 4)) (by rfl) (KS.g 4 (by decide)) rfl) pa_nil))) (pa_cons (pe_callB (call_isP List.mem_cons_self (KS.c i hi) hz hf) (by rfl) T.b_isinstance (by decide +kernel) (pa_cons (pv 0) (pa_cons (pe_glob (v := .ref (cs 5)) (by rfl) (KS.g 5 (by decide)) rfl) pa_nil))) (pa_cons (pe_callB (call_isP List.mem_cons_self (KS.c i hi) hz hf) (by rfl) T.b_isinstance (by decide +kernel) (pa_cons (pv 0) (pa_cons (pe_glob (v := .ref (cs 6)) (by rfl) (KS.g 6 (by decide)) rfl) pa_nil))) pa_nil))))))
  (pss_cons (ps_set (i := 1) nd rfl (by first | exact Or.inl rfl | exact Or.inr rfl) (pe_op op_cat (pv 1) (pe_lst (pa_cons (pe_callB (call_isP List.mem_cons_self (KS.c i hi) hz hf) (by rfl) T.b_isinstance (by decide +kernel) (pa_cons (pv 0) (pa_cons (pe_glob (v := .ref (cs 7)) (by rfl) (KS.g 7 (by decide)) rfl) pa_nil))) (pa_cons (pe_callB (call_isP List.mem_cons_self (KS.c i hi) hz hf) (by rfl) T.b_isinstance (by decide +kernel) (pa_cons (pv 0) (pa_cons (pe_glob (v := .ref (cs 8)) (by rfl) (KS.g 8 (by decide)) rfl) pa_nil))) (pa_cons (pe_callB (call_isP List.mem_cons_self (KS.c i hi) hz hf) (by rfl) T.b_isinstance (by decide +kernel) (pa_cons (pv 0) (pa_cons (pe_glob (v := .ref (cs 9)) (by rfl) (KS.g 9 (by decide)) rfl) pa_nil))) (pa_cons (pe_callB (call_isP List.mem_cons_self (KS.c i hi) hz hf) (by rfl) T.b_isinstance (by decide +kernel) (pa_cons (pv 0) (pa_cons (pe_glob (v := .ref (cs 10)) (by rfl) (KS.g 10 (by decide)) rfl) pa_nil))) pa_nil)))))))
  (pss_cons (ps_set (i := 1) nd rfl (by first | exact Or.inl rfl | exact Or.inr rfl) (pe_op op_cat (pv 1) (pe_lst (pa_cons (pe_callB (call_isP List.mem_cons_self (KS.c i hi) hz hf) (by rfl) T.b_isinstance (by decide +kernel) (pa_cons (pv 0) (pa_cons (pe_glob (v := .ref (cs 11)) (by rfl) (KS.g 11 (by decide)) rfl) pa_nil))) (pa_cons (pe_callB (call_isP List.mem_cons_self (KS.c i hi) hz hf) (by rfl) T.b_isinstance (by decide +kernel) (pa_cons (pv 0) (pa_cons (pe_glob (v := .ref (cs 12)) (by rfl) (KS.g 12 (by decide)) rfl) pa_nil))) pa_nil)))))
  (pss_cons (ps_set (i := 2) nd rfl (by first | exact Or.inl rfl | exact Or.inr rfl) (pe_lst (pa_cons pe_str (pa_cons pe_str (pa_cons pe_str (pa_cons pe_str (pa_cons pe_str (pa_cons pe_str (pa_cons pe_str (pa_cons pe_str pa_nil))))))))))
  (pss_cons (ps_set (i := 2) nd rfl (by first | exact Or.inl rfl | exact Or.inr rfl) (pe_op op_cat (pv 2) (pe_lst (pa_cons pe_str (pa_cons pe_str (pa_cons pe_str (pa_cons pe_str (pa_cons pe_str pa_nil))))))))
  (pss_one (ps_ret (pe_ifExp (PW.pt (pw_and (pt_cmpR op_eq (pe_bm PySem.F.plainAttrs_list PySem.F.slot_list_count PySem.F.type_list_count mt_lcountV (pv 1) (pa_cons pe_bl pa_nil)) pe_int (nomark _)) (pw_and1 (pt_val (pe_callB (call_isP List.mem_cons_self (KS.c i hi) hz hf) (by rfl) T.b_isinstance (by decide +kernel) (pa_cons (pv 0) (pa_cons (pe_bltn (v := .ty "ValueError") (by rfl) TE.b_ValueError (by decide +kernel) rfl) pa_nil))))))) (pe_ix ix_list (pv 2) (pe_bm PySem.F.plainAttrs_list PySem.F.slot_list_index PySem.F.type_list_index mt_index (pv 1) (pa_cons pe_bl pa_nil)) (fun _ _ => rfl)) pe_str))))))))), ?_⟩
    refine ⟨_, rfl, .ref (cs 0), .ref (cs 0), _, rfl, (fun _ r => r), KS.k i 0 hi (by decide), keep (Same.refl H), _, rfl, .ref (cs 1), .ref (cs 1), _, rfl, (fun _ r => r), KS.k i 1 hi (by decide), keep (Same.refl H), _, rfl, .ref (cs 2), .ref (cs 2), _, rfl, (fun _ r => r), KS.k i 2 hi (by decide), keep (Same.refl H), _, rfl, .ref (cs 3), .ref (cs 3), _, rfl, (fun _ r => r), KS.k i 3 hi (by decide), keep (Same.refl H), (by show 4 ≤ sizeLine; decide), fun l1 n1 => ?_⟩
    suffices hh : ∀ H1, Same H H1 → H1 l1 = some (.lst (kb i 4)) → _ from hh _ (Same.upd n1) upd_same
    intro H1 s1 h1
    refine ⟨_, rfl, _, rfl, .ref (cs 4), .ref (cs 4), _, rfl, (fun _ r => r), KS.k i 4 hi (by decide), keep s1, _, rfl, .ref (cs 5), .ref (cs 5), _, rfl, (fun _ r => r), KS.k i 5 hi (by decide), keep s1, _, rfl, .ref (cs 6), .ref (cs 6), _, rfl, (fun _ r => r), KS.k i 6 hi (by decide), keep s1, (by show 3 ≤ sizeLine; decide), fun l2 n2 => ?_⟩
    refine ⟨l1, l2, _, _, rfl, rfl, Same.upd n2 _ _ h1, upd_same, (by show 4 + 3 ≤ sizeLine; decide), fun r2 nr2 => ?_⟩
    suffices hh : ∀ H2, Same H H2 → H2 r2 = some (.lst (kb i 7)) → _ from hh _ ((s1.upd' n2).upd' nr2) upd_same
    intro H2 s2 h2
    refine ⟨_, rfl, _, rfl, .ref (cs 7), .ref (cs 7), _, rfl, (fun _ r => r), KS.k i 7 hi (by decide), keep s2, _, rfl, .ref (cs 8), .ref (cs 8), _, rfl, (fun _ r => r), KS.k i 8 hi (by decide), keep s2, _, rfl, .ref (cs 9), .ref (cs 9), _, rfl, (fun _ r => r), KS.k i 9 hi (by decide), keep s2, _, rfl, .ref (cs 10), .ref (cs 10), _, rfl, (fun _ r => r), KS.k i 10 hi (by decide), keep s2, (by show 4 ≤ sizeLine; decide), fun l3 n3 => ?_⟩
    refine ⟨r2, l3, _, _, rfl, rfl, Same.upd n3 _ _ h2, upd_same, (by show 7 + 4 ≤ sizeLine; decide), fun r3 nr3 => ?_⟩
    suffices hh : ∀ H3, Same H H3 → H3 r3 = some (.lst (kb i 11)) → _ from hh _ ((s2.upd' n3).upd' nr3) upd_same
    intro H3 s3 h3
    refine ⟨_, rfl, _, rfl, .ref (cs 11), .ref (cs 11), _, rfl, (fun _ r => r), KS.k i 11 hi (by decide), keep s3, _, rfl, .ref (cs 12), .ref (cs 12), _, rfl, (fun _ r => r), KS.k i 12 hi (by decide), keep s3, (by show 2 ≤ sizeLine; decide), fun l4 n4 => ?_⟩
    refine ⟨r3, l4, _, _, rfl, rfl, Same.upd n4 _ _ h3, upd_same, (by show 11 + 2 ≤ sizeLine; decide), fun r4 nr4 => ?_⟩
    suffices hh : ∀ H4, Same H H4 → H4 r4 = some (.lst (kb i 13)) → _ from hh _ ((s3.upd' n4).upd' nr4) upd_same
    intro H4 s4 h4
    refine ⟨(by show 8 ≤ sizeLine; decide), fun w1 nw1 => ?_⟩
    refine ⟨_, rfl, (by show 5 ≤ sizeLine; decide), fun w2 nw2 => ?_⟩
    refine ⟨w1, w2, _, _, rfl, rfl, Same.upd nw2 _ _ upd_same, upd_same, (by show 8 + 5 ≤ sizeLine; decide), fun w3 nw3 => ?_⟩
    suffices hh : ∀ H5, Same H H5 → H5 r4 = some (.lst (kb i 13)) → H5 w3 = some (.lst (cnms.map V.str)) → _ from hh _ (((s4.upd' nw1).upd' nw2).upd' nw3) (Same.upd nw3 _ _ (Same.upd nw2 _ _ (Same.upd nw1 _ _ h4))) upd_same
    intro H5 s5 h5 hw5
    refine ⟨_, rfl, .inl ⟨rfl, _, SqL.of h5⟩, r4, _, _, rfl, rfl, SqL.of h5, rfl, kb_flat i 13, ?_⟩
    rw [kb_count i hi]
    refine ⟨rfl, _, rfl, ?_⟩
    refine ite2 (fun _ => ?_) (fun c => absurd rfl c)
    refine ⟨_, rfl, .ty "ValueError", .type "ValueError", _, rfl, (fun _ r => r), KS.v i hi, keep s5, _, rfl, ?_⟩
    refine ite2 (fun _ => ?_) (fun c => absurd rfl c)
    refine ⟨_, rfl, _, rfl, .inl ⟨rfl, _, SqL.of h5⟩, r4, kb i 13, .bl true, i, .bl true, rfl, rfl, SqL.of h5, rfl, kb_flat i 13, ?_, rfl, fun m z hm hz => ?_, ?_⟩
    · rw [kb_at hi, decide_eq_true rfl]
    · rw [kb_at (by omega)] at hz
      obtain rfl := Option.some.inj hz
      rw [decide_eq_false (by omega)]
      rfl
    · exact ⟨w3, _, _, _, rfl, rfl, SqL.of hw5, atI_nat (cnm_at hi), k _ s5⟩
end
end K3

set_option Elab.async false
set_option linter.all false
set_option maxRecDepth 100000
set_option maxHeartbeats 4000000
/-! KZ: what a lambda tells, or its refusal -/
namespace K3
open PySem PySem.Spec PyProof.Rows L2
theorem _root_.L2.PE.imp {X : Cx} {e : Expr} {t t' : TE} (h : PE X e t) (m : ∀ σ H Q, t' σ H Q → t σ H Q) : PE X e t' := ⟨fun pins s σ H Q I q => h.run pins s σ H Q I (m _ _ _ q)⟩
theorem op_in_seqK {X : Cx} {K : PySem.W.Frag} (e : X.K = K) : OpR X (compareOp .In) (rIn K false) := by
  subst e
  exact op_in_seq
def tClass (cs : Nat → Addr) (a : Addr) (cls : Value) (d : Option Addr) : TE := fun σ H Q => ∃ i, σ[1]? = some (some (.ref a)) ∧ i < 13 ∧ cls = .ref (cs i) ∧ (∀ dd, d = some dd → ∃ fs, H dd = some (.xd fs)) ∧ ∀ H', Same H H' → Q (.str (cnm i)) H'
/-- a refusal as the law tells it: its class's name, its place or 0 -/
def Told (cs : Nat → Addr) (cls : Value) (d : Option Addr) (H' : Hp) (Q : VK) : Prop := ∃ (i : Nat) (pl : Int), i < 13 ∧ cls = .ref (cs i) ∧
  ((i ≠ 1 ∧ i ≠ 5 ∧ i ≠ 12 ∧ d = none ∧ pl = 0) ∨ ((i = 1 ∨ i = 5 ∨ i = 12) ∧ ∃ dd fs, d = some dd ∧ H' dd = some (.xd fs) ∧ fs.lookup ("place" : Str) = some (V.int pl))) ∧
  ∀ (H'' : Hp) (t : Addr), Same H' H'' → H' t = none → H'' t = some (.tup [.str (cnm i), .int pl]) → Q (.ref t) H''
def TTd (cs : Nat → Addr) : (XK → Hp → VK → Prop) → Hp → VK → Prop := fun tl H Q => ∀ E : XK, (∀ cls d H', Told cs cls d H' Q → E cls d H') → tl E H Q
theorem place_in : ∀ {i : Nat}, i < 13 → inV (.str (cnm i)) [V.str "BadValues", V.str "BadRows", V.str "BadText"] = decide (i = 1 ∨ i = 5 ∨ i = 12) := by decide
abbrev s__law_told : Stmt := top 49
abbrev N__law_told : List Str := ["_law_work", "_law_e", "_law_word"]
abbrev P__law_told : List Str := ["_law_work"]
theorem sc__law_told : FnScope N__law_told P__law_told (defScope s__law_told) := ⟨rfl, rfl, rfl, by decide +kernel, rfl, by decide +kernel, by decide +kernel⟩
theorem told_gives {X : Cx} {k : Nat} {cs : Nat → Addr} {CE : Addr} {g : Addr} {cdg : Value} {q : Str} (KS : Kinds X.K X.mg cs CE) (G_class : Fnp X.prog X.w X.K X.mg X.base CX0 1 "_law_class" P__law_class (spClass X.K cs)) :
    GivesR X N__law_told "_law_told" (defScope s__law_told) g cdg (defBody s__law_told) "_law_work" q (k + 1) (TTd cs) := by
  intro f c' s H Q tl hr act hc h
  have nd := sc__law_told.nd
  have hrS : ∀ a, L2H.RoomH 1 (((cxOf C8.CX0 X.prog X.w X.K X.mg X.base N__law_told "_law_told" (defScope s__law_told) g cdg X.A X.stack s H C8.E0).nox).suite a []).A := fun a => ⟨(hr.mono (by omega : 1 ≤ k + 1)).dp, (hr.mono (by omega : 1 ≤ k + 1)).un⟩
  refine ⟨_, (pss_one (ps_try_as (i := 1) (c := .ref CE) (n := "_law_e") (Wout := fun _ _ _ _ => False) rfl rfl nd rfl rfl ⟨rfl, by decide, .inl KS.ge⟩ takes0 (fun W pn xe tk _ => pss_one (ps_ret (act W pn xe _ _ tk))) (fun a oe cls d pn hz hf => pss_cons (ps_set (i := 2) nd rfl (Or.inl rfl) (PE.imp (t' := tClass cs a cls d) (pe_cP (E := fun _ => C8.E0) G_class (hrS a) List.mem_cons_self (fun _ _ _ _ _ _ _ h => h.elim) (pa_cons (pv 1) pa_nil)) (fun σ H Q ⟨i, hs, hi, hc, hd, k⟩ => ⟨.ref a, hs, i, d, hi, rfl, by rw [← hc]; exact hz, hf, hd, k⟩))) (pss_one (ps_ret (pe_tup (pa_cons (pv 2) (pa_cons (pe_ifExp (pt_cmpR (op_in_seqK (K := X.K) rfl) (pv 2) (pe_tup (pa_cons pe_str (pa_cons pe_str (pa_cons pe_str pa_nil)))) (by rfl)) (pe_xfA hz hf (pv 1)) pe_int) pa_nil)))))))), ?_⟩
  refine ⟨rfl, hc, h _ fun cls d H' ⟨i, pl, hi, ec, hd, k⟩ => ?_⟩
  subst ec
  refine ⟨true, KS.m i hi, fun _ a na => ?_, fun z => Bool.noConfusion z⟩
  have keep : ∀ dd, d = some dd → ∃ fs, H' dd = some (.xd fs) := fun dd e => by
    rcases hd with ⟨_, _, _, e0, _⟩ | ⟨_, dd', fs, e1, h1, _⟩
    · rw [e0] at e
      cases e
    · rw [e1] at e
      cases e
      exact ⟨fs, h1⟩
  refine ⟨i, rfl, hi, rfl, keep, fun H2 s2 => ?_⟩
  refine ⟨_, rfl, _, rfl, (by show 3 ≤ sizeLine; decide), fun t3 n3 => ?_⟩
  have s3 := s2.trans (Same.upd (o := .tup [.str "BadValues", .str "BadRows", .str "BadText"]) n3)
  refine ⟨t3, _, rfl, .inr (SqT.of upd_same), rfl, rfl, _, rfl, ?_⟩
  have e := place_in hi
  show if inV (.str (cnm i)) [V.str "BadValues", V.str "BadRows", V.str "BadText"] = true then _ else _
  rw [e]
  rcases hd with ⟨h1, h5, h12, ed, ep⟩ | ⟨hp, dd, fs, ed, hdd, hf⟩
  · rw [decide_eq_false (by omega)]
    refine ite2 (fun z => Bool.noConfusion (show false = true from z)) (fun _ => ?_)
    refine ⟨(by show 2 ≤ sizeLine; decide), fun t nt => ?_⟩
    subst ep
    exact k _ t (s3.upd' nt) (s3.free nt) upd_same
  · rw [decide_eq_true hp]
    refine ite2 (fun _ => ?_) (fun z => absurd rfl z)
    obtain ⟨x1, x2⟩ := KS.xf i hp
    refine ⟨_, rfl, rfl, cs i, dd, fs, .int pl, x1, x2, rfl, ed, s3 _ _ hdd, hf, (by show 2 ≤ sizeLine; decide), fun t nt => ?_⟩
    exact k _ t (s3.upd' nt) (s3.free nt) upd_same
/-! ### what is looked at in the head -/
def excCB (K : PySem.W.Frag) (D : Addr) : Bool :=
  decide (PySem.W.findIn K (.ref D) "__getattribute__" = some (some (.builtin "BaseException.__getattribute__"))) && (decide (PySem.W.findIn K (.ref D) "__getattr__" = some none) && (decide (PySem.W.subIn K (.ref D) (.type "BaseException") = some true) && (PySem.W.hasDictIn K D &&
  (decide (PySem.W.findIn K (.ref D) "__class__" = some (some (.builtin "object.__class__"))) && (decide (PySem.W.specialIn K (.builtin "object.__class__") "__get__" = some (some (.builtin "getset_descriptor.__get__"))) && (decide (PySem.W.takesIn K (.builtin "object.__class__") = some true) && decide (PySem.W.mroIn K D (.type "object") = some true)))))))
theorem excCB_ok {K : PySem.W.Frag} {D : Addr} (h : excCB K D = true) : L2.ExcC K D := by
  obtain ⟨h1, h⟩ := Bool.and_eq_true_iff.mp h
  obtain ⟨h2, h⟩ := Bool.and_eq_true_iff.mp h
  obtain ⟨h3, h⟩ := Bool.and_eq_true_iff.mp h
  obtain ⟨h4, h⟩ := Bool.and_eq_true_iff.mp h
  obtain ⟨h5, h⟩ := Bool.and_eq_true_iff.mp h
  obtain ⟨h6, h⟩ := Bool.and_eq_true_iff.mp h
  obtain ⟨h7, h8⟩ := Bool.and_eq_true_iff.mp h
  exact ⟨of_decide_eq_true h1, of_decide_eq_true h2, of_decide_eq_true h3, h4, of_decide_eq_true h5, of_decide_eq_true h6, of_decide_eq_true h7, of_decide_eq_true h8⟩
def kindB (K : PySem.W.Frag) (cs : Nat → Addr) (CE : Addr) (i : Nat) : Bool :=
  excCB K (cs i) && ((List.range 13).all (fun j => decide (PySem.W.kitOne K (.ref (cs i)) (.ref (cs j)) = some (decide (i = j)))) && (decide (PySem.W.kitOne K (.ref (cs i)) (.type "ValueError") = some true) && (decide (PySem.W.exmOne K (.ref (cs i)) (.ref CE) = some true) &&
  (if i = 1 ∨ i = 5 ∨ i = 12 then xfB K (cs i) && decide (PySem.W.findIn K (.ref (cs i)) "place" = some none) else true))))
def kindsB (K : PySem.W.Frag) (cs : Nat → Addr) (CE : Addr) : Bool := (List.range 13).all (kindB K cs CE)
theorem kinds_of {K : PySem.W.Frag} {mg : Str → Option Value} {cs : Nat → Addr} {CE : Addr} (h : kindsB K cs CE = true) (g : ∀ i, i < 13 → mg (cnm i) = some (.ref (cs i))) (ge : mg "ColumnError" = some (.ref CE)) : Kinds K mg cs CE := by
  have key : ∀ i, i < 13 → kindB K cs CE i = true := fun i hi => List.all_eq_true.mp h i (List.mem_range.mpr hi)
  have part : ∀ i, i < 13 → L2.ExcC K (cs i) ∧ (∀ j, j < 13 → PySem.W.kitOne K (.ref (cs i)) (.ref (cs j)) = some (decide (i = j))) ∧ PySem.W.kitOne K (.ref (cs i)) (.type "ValueError") = some true ∧ PySem.W.exmOne K (.ref (cs i)) (.ref CE) = some true ∧ (i = 1 ∨ i = 5 ∨ i = 12 → XfC K (cs i) ∧ PySem.W.findIn K (.ref (cs i)) "place" = some none) := fun i hi => by
    obtain ⟨h1, h⟩ := Bool.and_eq_true_iff.mp (key i hi)
    obtain ⟨h2, h⟩ := Bool.and_eq_true_iff.mp h
    obtain ⟨h3, h⟩ := Bool.and_eq_true_iff.mp h
    obtain ⟨h4, h5⟩ := Bool.and_eq_true_iff.mp h
    refine ⟨excCB_ok h1, fun j hj => of_decide_eq_true (List.all_eq_true.mp h2 j (List.mem_range.mpr hj)), of_decide_eq_true h3, of_decide_eq_true h4, fun hp => ?_⟩
    rw [if_pos hp] at h5
    obtain ⟨h6, h7⟩ := Bool.and_eq_true_iff.mp h5
    exact ⟨xfB_ok h6, of_decide_eq_true h7⟩
  exact ⟨g, fun i hi => (part i hi).1, fun i j hi hj => (part i hi).2.1 j hj, fun i hi => (part i hi).2.2.1, fun i hi => (part i hi).2.2.2.1, ge, fun i hp => (part i (by omega)).2.2.2.2 hp⟩
end K3

set_option Elab.async false
set_option linter.all false
set_option maxRecDepth 100000
set_option maxHeartbeats 4000000
/-! KQ: == and != of data with a Lean type -/
namespace K3
open PySem PySem.Spec PyProof.Rows L2
/-- x is the data a -/
def IsD {α : Type} [DecidableEq α] [PySem.W.Datum α] (K : PySem.W.Frag) (H : Hp) (x : V) (a : α) : Prop := Dp K H x (PySem.W.Datum.toD a)
section
variable {α β : Type} [DecidableEq α] [PySem.W.Datum α] [DecidableEq β] [PySem.W.Datum β] {K : PySem.W.Frag} {H H' : Hp}
theorem isD_int {i : Int} : IsD K H (.int i) i := Dp.int i
theorem isD_bl {b : Bool} : IsD K H (.bl b) b := Dp.bl b
theorem isD_str {z : Str} : IsD K H (.str z) z := Dp.str z
theorem dpAll_of {xs : List V} {as : List α} (h : Paired (IsD K H) xs as) : DpAll K H xs (as.map PySem.W.Datum.toD) := by
  induction h with
  | nil => exact .nil
  | cons h _ ih => exact .cons h ih
theorem isD_lst {p : Addr} {xs : List V} {as : List α} (hp : SqL K H p xs) (h : Paired (IsD K H) xs as) : IsD K H (.ref p) as := Dp.lst hp (dpAll_of h)
theorem isD_pair {p : Addr} {x y : V} {a : α} {b : β} (hp : SqT K H p [x, y]) (h1 : IsD K H x a) (h2 : IsD K H y b) : IsD K H (.ref p) (a, b) := Dp.tup hp (.cons h1 (.cons h2 .nil))
theorem isD_ints {p : Addr} {ns : List Int} (hp : SqL K H p (ns.map V.int)) : IsD K H (.ref p) ns := Dp.lst hp (dpAll_intsD ns)
where
  dpAll_intsD : ∀ ns : List Int, DpAll K H (ns.map V.int) (ns.map PySem.W.Datum.toD)
    | [] => .nil
    | n :: r => .cons (.int n) (dpAll_intsD r)
theorem isD_nil {p : Addr} (hp : SqL K H p []) : IsD K H (.ref p) ([] : List α) := Dp.lst hp .nil
end
def rEqM (α : Type) [DecidableEq α] [PySem.W.Datum α] (K : PySem.W.Frag) (neg : Bool) : R2 := fun x y H Q => ∃ a b : α, IsD K H x a ∧ IsD K H y b ∧ Q (.bl (if neg then !decide (a = b) else decide (a = b))) H
section
variable {X : Cx} {α : Type} [DecidableEq α] [PySem.W.Datum α]
theorem op_eqM (hu : X.A.units + 64 < cLine) (hd : PySem.W.Datum.depth α ≤ 60) : OpR X (compareOp .Eq) (rEqM α X.K false) := by
  intro pins s σ H x y v u Q I rx ry h
  obtain ⟨a, b, h1, h2, q⟩ := h
  obtain ⟨as, r1⟩ := Dp.reads I _ x v h1 rx
  obtain ⟨bs, r2⟩ := Dp.reads I _ y u h2 ry
  have d1 := PySem.W.Datum.depth_le a
  refine PySem.SeqAt.eq_plain r1 r2 (PySem.W.Datum.plain a) (PySem.W.Datum.plain b) (by omega) ⟨.bl _, H, I, rfl, ?_⟩
  rw [PySem.W.Datum.eqv]
  exact q
theorem op_neM (hu : X.A.units + 64 < cLine) (hd : PySem.W.Datum.depth α ≤ 60) : OpR X (compareOp .NotEq) (rEqM α X.K true) := by
  intro pins s σ H x y v u Q I rx ry h
  obtain ⟨a, b, h1, h2, q⟩ := h
  obtain ⟨as, r1⟩ := Dp.reads I _ x v h1 rx
  obtain ⟨bs, r2⟩ := Dp.reads I _ y u h2 ry
  have d1 := PySem.W.Datum.depth_le a
  refine PySem.SeqAt.ne_plain r1 r2 (PySem.W.Datum.plain a) (PySem.W.Datum.plain b) (by omega) ⟨.bl _, H, I, rfl, ?_⟩
  rw [PySem.W.Datum.eqv]
  exact q
end
end K3

set_option Elab.async false
set_option linter.all false
set_option maxRecDepth 100000
set_option maxHeartbeats 4000000
/-! KB: the program's bound, of any prices -/
namespace K3
open PySem PySem.Spec PyProof.Rows L2
structure BoundOk (ns cs : List Int) : Prop where
  len : cs.length = ns.length + 1
  zero : cs[0]? = some 0
  gap : ∀ (i j : Nat) (a b : Int), i < j → j ≤ ns.length → cs[i]? = some a → cs[j]? = some b → b - a ≤ (lr (seg ns i j) 5 : Int)
theorem lr_small {ns : List Int} : lr ns 5 ≤ 1 + ns.length := lr_le (j := 0) (by omega) (rfl : mk 0 ns = some (.plain ns))
section
variable {P : Program} {w : World} {K : PySem.W.Frag} {mg : Str → Option Value} {base : Heap}
abbrev s_bound : Stmt := top 40
abbrev N_bound : List Str := ["values", "told", "start", "end", "cells"]
abbrev P_bound : List Str := ["values", "told"]
theorem sc_bound : FnScope N_bound P_bound (defScope s_bound) := ⟨rfl, rfl, rfl, by decide +kernel, rfl, by decide +kernel, by decide +kernel⟩
def spBoundX (K : PySem.W.Frag) (CB : Addr) : Sp := fun vs H Q E => ∃ (a b : Addr) (ns cs : List Int), vs = [.ref a, .ref b] ∧ SqL K H a (ns.map V.int) ∧ SqL K H b (cs.map V.int) ∧ Good ns ∧ cs.length ≤ 1000 ∧
  (BoundOk ns cs → ∀ (H' : Hp) (c : Int), Same H H' → cs[ns.length]? = some c → Q (.int c) H') ∧ (¬ BoundOk ns cs → ∀ H', Same H H' → E (.ref CB) none H')
theorem ok_boundX {CB : Addr} (T : Txt mg) (XP : Exc1 K mg "BadPrices" CB) (D : Df K mg "bound" s_bound P_bound) (G_check_values : Fn P w K mg base CX0 1 "check_values" P_check_values (spChV K)) (G_rooms_from : Fn P w K mg base CX0 4 "rooms_from" P_rooms_from (spRf K)) : Fn P w K mg base (L2.CX P w) 20 "bound" P_bound (spBoundX K CB) := by
  refine D.okX sc_bound (fun vs H Q E h => ?_) (fun f cdv A outer s H vs Q E hr h => ?_)
  · obtain ⟨a, b, ns, cs, rfl, _⟩ := h
    rfl
  · obtain ⟨a, b, ns, cs, rfl, hS, hB, G, cl, kS, kE⟩ := h
    have nd := sc_bound.nd
    refine ⟨_, (pss_cons (ps_expr (pe_c G_check_values (hr.mono (by decide)) pass0 (pa_cons (pv 0) pa_nil)))
  (pss_cons (ps_if (pt_cmpR op_ne (pe_callB call_len_seq (by rfl) T.b_len (by decide +kernel) (pa_cons (pv 1) pa_nil)) (pe_op op_add (pe_callB call_len_seq (by rfl) T.b_len (by decide +kernel) (pa_cons (pv 0) pa_nil)) pe_int) (nomark _))
  (pss_one (ps_raise rfl (takes_of rfl rfl rfl rfl) (SkE.pmk_own1 PySem.F.excBase_ValueError XP.x XP.g XP.k (raises_own XP.b XP.t) rfl (pe_joined (.cons (pe_fmt (pe_callB call_len_seq (by rfl) T.b_len (by decide +kernel) (pa_cons (pv 0) pa_nil))) (.cons pe_str (.cons (pe_fmt (pe_op op_add (pe_callB call_len_seq (by rfl) T.b_len (by decide +kernel) (pa_cons (pv 0) pa_nil)) pe_int)) (.cons pe_str .nil))))))))
  pss_nil)
  (pss_cons (ps_if (pt_cmpR op_ne (pe_ix ix_list (pv 1) pe_int (fun _ _ => rfl)) pe_int (nomark _))
  (pss_one (ps_raise rfl (takes_of rfl rfl rfl rfl) (pmk_own PySem.F.excBase_ValueError XP.x XP.g XP.k (raises_own XP.b XP.t) rfl)))
  pss_nil)
  (pss_cons (ps_for (passes_of rfl) rfl (pi_range1 (by rfl) T.b_range (pa_cons (pe_callB call_len_seq (by rfl) T.b_len (by decide +kernel) (pa_cons (pv 0) pa_nil)) pa_nil)) (pg_name (i := 2) nd rfl (by first | exact Or.inl rfl | exact Or.inr rfl))
  (pss_one (ps_for (passes_of rfl) rfl (pi_list (pe_c G_rooms_from (hr.mono (by decide)) pass0 (pa_cons (pv 0) (pa_cons (pv 2) pa_nil)))) (pg_tup (by rfl) (pgs_cons (pg_name (i := 3) nd rfl (by first | exact Or.inl rfl | exact Or.inr rfl)) (pgs_cons (pg_name (i := 4) nd rfl (by first | exact Or.inl rfl | exact Or.inr rfl)) pgs_nil)))
  (pss_one (ps_if (pt_cmpR op_lt (pv 4) (pe_op op_sub (pe_ix ix_list (pv 1) (pv 3) (fun _ _ => rfl)) (pe_ix ix_list (pv 1) (pv 2) (fun _ _ => rfl))) (nomark _))
  (pss_one (ps_raise rfl (takes_of rfl rfl rfl rfl) (SkE.pmk_own1 PySem.F.excBase_ValueError XP.x XP.g XP.k (raises_own XP.b XP.t) rfl (pe_joined (.cons pe_str (.cons (pe_fmt (pv 2)) (.cons pe_str (.cons (pe_fmt (pv 3)) (.cons pe_str (.cons (pe_fmt (pv 4)) (.cons pe_str .nil)))))))))))
  pss_nil)))))
  (pss_one (ps_ret (pe_ix ix_list (pv 1) (pe_callB call_len_seq (by rfl) T.b_len (by decide +kernel) (pa_cons (pv 0) pa_nil)) (fun _ _ => rfl)))))))), ?_⟩
    have few := G.few
    refine ⟨_, rfl, a, ns, rfl, hS, G, fun H0 s0 => ?_⟩
    refine ⟨_, rfl, b, _, rfl, .inl (s0.seq hB), _, rfl, a, _, rfl, .inl (s0.seq hS), _, _, rfl, rfl, rfl, _, rfl, ?_⟩
    have hlog : (((ns.map V.int).length : Nat) : Int).natAbs < 2 ^ 64 := by rw [List.length_map]; omega
    have hlog1 : ((((ns.map V.int).length : Nat) : Int) + 1).natAbs < 2 ^ 64 := by rw [List.length_map]; omega
    refine ite2 (fun c => ?_) (fun c => ?_)
    · have c' : (!decide (V.int ((cs.map V.int).length : Int) = V.int (((ns.map V.int).length : Int) + 1))) = true := c
      refine ⟨_, rfl, a, _, rfl, .inl (s0.seq hS), .inr ⟨_, rfl, int_log hlog, _, rfl, str_fits (str_add (show Str.empty.length ≤ 0 from Nat.le_refl 0) (int_len hlog)) (by decide), _, rfl, str_fits (str_add (str_add (show Str.empty.length ≤ 0 from Nat.le_refl 0) (int_len hlog)) (show (Str.ofString " values have ").length ≤ 13 by decide)) (by decide), _, rfl, a, _, rfl, .inl (s0.seq hS), _, _, rfl, rfl, .inr ⟨_, rfl, int_log hlog1, _, rfl, str_fits (str_add (str_add (str_add (show Str.empty.length ≤ 0 from Nat.le_refl 0) (int_len hlog)) (show (Str.ofString " values have ").length ≤ 13 by decide)) (int_len hlog1)) (by decide), _, rfl, str_fits (str_add (str_add (str_add (str_add (show Str.empty.length ≤ 0 from Nat.le_refl 0) (int_len hlog)) (show (Str.ofString " values have ").length ≤ 13 by decide)) (int_len hlog1)) (show (Str.ofString " prices").length ≤ 7 by decide)) (by decide), kE (fun B => ?_) _ s0⟩⟩⟩
      have e := B.len
      rw [decide_eq_true (by rw [List.length_map, List.length_map, e]; rfl)] at c'
      cases c'
    have hlen : cs.length = ns.length + 1 := by
      by_cases z : cs.length = ns.length + 1
      · exact z
      · refine absurd ?_ c
        show (!decide (V.int ((cs.map V.int).length : Int) = V.int (((ns.map V.int).length : Int) + 1))) = true
        rw [decide_eq_false (fun y => z (by have := V.int.inj y; rw [List.length_map, List.length_map] at this; omega))]
        rfl
    obtain ⟨c0, hc0⟩ : ∃ c0, cs[0]? = some c0 := ⟨_, List.getElem?_eq_getElem (by omega)⟩
    refine ⟨_, rfl, b, _, 0, .int c0, rfl, rfl, s0.seq hB, at_of (z := 0) (j := 0) rfl (by rw [List.getElem?_map, hc0]; rfl), rfl, _, rfl, ?_⟩
    refine ite2 (fun c => ?_) (fun c => ?_)
    · have c' : (!decide (V.int c0 = V.int 0)) = true := c
      refine kE (fun B => ?_) _ s0
      have e := B.zero
      rw [hc0] at e
      rw [decide_eq_true (congrArg V.int (Option.some.inj e))] at c'
      cases c'
    have hz : cs[0]? = some 0 := by
      by_cases z : c0 = 0
      · rw [hc0, z]
      · refine absurd ?_ c
        show (!decide (V.int c0 = V.int 0)) = true
        rw [decide_eq_false (fun y => z (V.int.inj y))]
        rfl
    refine ⟨_, rfl, a, _, rfl, .inl (s0.seq hS), _, rfl, by omega, by rw [List.length_map]; omega, ?_⟩
    rw [List.length_map, Int.toNat_natCast]
    refine for_it (walk_range (lo := 0)) (fun i σ H' => (∃ (v2 v3 v4 : Option V), σ = [some (.ref a), some (.ref b), v2, v3, v4]) ∧ Same H H' ∧ ∀ (i' j : Nat) (x y : Int), i' < i → i' < j → j ≤ ns.length → cs[i']? = some x → cs[j]? = some y → y - x ≤ (lr (seg ns i' j) 5 : Int)) ⟨⟨none, none, none, rfl⟩, s0, fun _ _ _ _ h => absurd h (Nat.not_lt_zero _)⟩ (fun _ _ _ _ _ => True.intro) ?_ ?_
    · rintro i x σ H3 H3' hi ⟨⟨v2, v3, v4, rfl⟩, s3, gp⟩ ⟨rfl, rfl⟩
      have e0 : (0 : Int) + (i : Int) = (i : Int) := by omega
      refine ⟨_, rfl, _, rfl, a, ns, i, ?_, s3.seq hS, G, hi, fun H4 p ps s4 np hp prp => ?_⟩
      · show [V.ref a, V.int (0 + (i : Int))] = _
        rw [e0]
      have plen : ps.length = ns.length - i := by rw [Paired.length prp, roomsL_length]
      obtain ⟨va, ha⟩ : ∃ va, cs[i]? = some va := ⟨_, List.getElem?_eq_getElem (by omega)⟩
      refine ⟨p, rfl, ⟨_, SqL.of hp⟩, for_it (walk_list (xs := ps)) (fun e σ H' => (∃ (v3 v4 : Option V), σ = [some (.ref a), some (.ref b), some (.int (0 + (i : Int))), v3, v4]) ∧ Same H4 H' ∧ ∀ (j : Nat) (y : Int), i < j → j < i + 1 + e → cs[j]? = some y → y - va ≤ (lr (seg ns i j) 5 : Int)) ⟨⟨v3, v4, rfl⟩, Same.refl _, fun j y h1 h2 => absurd h1 (by omega)⟩ (fun _ _ _ _ ⟨_, h, _⟩ => SqL.of (h _ _ hp)) ?_ ?_⟩
      · rintro e x σ H5 H5' he ⟨⟨w3, w4, rfl⟩, s5, gi⟩ ⟨rfl, ex⟩
        have he' : e < ns.length - i := by omega
        obtain ⟨z, hz, pt, rfl, hpt⟩ := paired_at prp ex
        rw [roomsL_at he'] at hz
        obtain rfl := Option.some.inj hz
        have hpt : SqT K H4 pt [.int ((i + 1 + e : Nat) : Int), .int (lr (seg ns i (i + 1 + e)) 5 : Int)] := hpt
        have sA := (s3.trans s4).trans s5
        obtain ⟨vb, hb⟩ : ∃ vb, cs[i + 1 + e]? = some vb := ⟨_, List.getElem?_eq_getElem (by omega)⟩
        have hlr : (lr (seg ns i (i + 1 + e)) 5 : Int).natAbs < 2 ^ 64 := by
          have h1 := lr_small (ns := seg ns i (i + 1 + e))
          rw [seg_length (by omega)] at h1
          omega
        refine ⟨pt, _, rfl, s5.seqT hpt, rfl, _, _, rfl, _, _, rfl, rfl, ?_⟩
        refine ⟨_, rfl, _, rfl, _, rfl, b, _, _, .int vb, rfl, rfl, sA.seq hB, atI_nat (by rw [List.getElem?_map, hb]; rfl), _, rfl, _, rfl, b, _, _, .int va, rfl, rfl, sA.seq hB, at_of (j := i) (by omega) (by rw [List.getElem?_map, ha]; rfl), _, _, rfl, rfl, _, _, rfl, rfl, _, rfl, ?_⟩
        refine ite2 (fun c => ?_) (fun c => ?_)
        · have c' : (lr (seg ns i (i + 1 + e)) 5 : Int) < vb - va := of_decide_eq_true c
          refine ⟨_, rfl, str_fits (str_add (show Str.empty.length ≤ 0 from Nat.le_refl 0) (show (Str.ofString "the stretch from ").length ≤ 17 by decide)) (by decide), _, rfl, .inr ⟨_, rfl, int_log (show (0 + (i : Int)).natAbs < 2 ^ 64 by omega), _, rfl, str_fits (str_add (str_add (show Str.empty.length ≤ 0 from Nat.le_refl 0) (show (Str.ofString "the stretch from ").length ≤ 17 by decide)) (int_len (show (0 + (i : Int)).natAbs < 2 ^ 64 by omega))) (by decide), _, rfl, str_fits (str_add (str_add (str_add (show Str.empty.length ≤ 0 from Nat.le_refl 0) (show (Str.ofString "the stretch from ").length ≤ 17 by decide)) (int_len (show (0 + (i : Int)).natAbs < 2 ^ 64 by omega))) (show (Str.ofString " to ").length ≤ 4 by decide)) (by decide), _, rfl, .inr ⟨_, rfl, int_log (show ((i + 1 + e : Nat) : Int).natAbs < 2 ^ 64 by omega), _, rfl, str_fits (str_add (str_add (str_add (str_add (show Str.empty.length ≤ 0 from Nat.le_refl 0) (show (Str.ofString "the stretch from ").length ≤ 17 by decide)) (int_len (show (0 + (i : Int)).natAbs < 2 ^ 64 by omega))) (show (Str.ofString " to ").length ≤ 4 by decide)) (int_len (show ((i + 1 + e : Nat) : Int).natAbs < 2 ^ 64 by omega))) (by decide), _, rfl, str_fits (str_add (str_add (str_add (str_add (str_add (show Str.empty.length ≤ 0 from Nat.le_refl 0) (show (Str.ofString "the stretch from ").length ≤ 17 by decide)) (int_len (show (0 + (i : Int)).natAbs < 2 ^ 64 by omega))) (show (Str.ofString " to ").length ≤ 4 by decide)) (int_len (show ((i + 1 + e : Nat) : Int).natAbs < 2 ^ 64 by omega))) (show (Str.ofString " has ").length ≤ 5 by decide)) (by decide), _, rfl, .inr ⟨_, rfl, int_log hlr, _, rfl, str_fits (str_add (str_add (str_add (str_add (str_add (str_add (show Str.empty.length ≤ 0 from Nat.le_refl 0) (show (Str.ofString "the stretch from ").length ≤ 17 by decide)) (int_len (show (0 + (i : Int)).natAbs < 2 ^ 64 by omega))) (show (Str.ofString " to ").length ≤ 4 by decide)) (int_len (show ((i + 1 + e : Nat) : Int).natAbs < 2 ^ 64 by omega))) (show (Str.ofString " has ").length ≤ 5 by decide)) (int_len hlr)) (by decide), _, rfl, str_fits (str_add (str_add (str_add (str_add (str_add (str_add (str_add (show Str.empty.length ≤ 0 from Nat.le_refl 0) (show (Str.ofString "the stretch from ").length ≤ 17 by decide)) (int_len (show (0 + (i : Int)).natAbs < 2 ^ 64 by omega))) (show (Str.ofString " to ").length ≤ 4 by decide)) (int_len (show ((i + 1 + e : Nat) : Int).natAbs < 2 ^ 64 by omega))) (show (Str.ofString " has ").length ≤ 5 by decide)) (int_len hlr)) (show (Str.ofString " cells only").length ≤ 11 by decide)) (by decide), kE (fun B => ?_) _ sA⟩⟩⟩⟩
          have := B.gap i (i + 1 + e) va vb (by omega) (by omega) ha hb
          omega
        · have c' : ¬ (lr (seg ns i (i + 1 + e)) 5 : Int) < vb - va := fun z => c (decide_eq_true z)
          refine ⟨⟨_, _, rfl⟩, s5, fun j y h1 h2 hy => ?_⟩
          by_cases ej : j = i + 1 + e
          · subst ej
            rw [hb] at hy
            cases hy
            omega
          · exact gi j y h1 (by omega) hy
      · rintro σ H5 ⟨⟨w3, w4, rfl⟩, s5, gi⟩
        rw [plen] at gi
        refine ⟨⟨_, _, _, rfl⟩, (s3.trans s4).trans s5, fun i' j x y h1 h2 h3 hx hy => ?_⟩
        by_cases ei : i' = i
        · subst ei
          rw [ha] at hx
          cases hx
          exact gi j y h2 (by omega) hy
        · exact gp i' j x y (by omega) h2 h3 hx hy
    · rintro σ H3 ⟨⟨v2, v3, v4, rfl⟩, s3, gp⟩
      have B : BoundOk ns cs := ⟨hlen, hz, fun i j x y h1 h2 hx hy => gp i j x y (by omega) h1 h2 hx hy⟩
      obtain ⟨m, hm⟩ : ∃ m, cs[ns.length]? = some m := ⟨_, List.getElem?_eq_getElem (by omega)⟩
      refine ⟨_, rfl, _, rfl, a, _, rfl, .inl (s3.seq hS), b, _, _, .int m, rfl, rfl, s3.seq hB, ?_, kS B _ _ s3 hm⟩
      rw [List.length_map]
      exact atI_nat (by rw [List.getElem?_map, hm]; rfl)
end
end K3

set_option Elab.async false
set_option linter.all false
set_option maxRecDepth 100000
set_option maxHeartbeats 4000000
/-! K6: the law's own looking at all stretches, what is due -/
namespace K3
open PySem PySem.Spec PyProof.Rows L2
abbrev Tri := PySem.W.T3 Int Int Int
/-- at x a stretch's begin, end, fewest cells -/
def TriAt (K : PySem.W.Frag) (H : Hp) (x : V) (q : Tri) : Prop := ∃ p, x = .ref p ∧ SqT K H p [.int q.a, .int q.b, .int q.c]
theorem tri_keep {K : PySem.W.Frag} {H H' : Hp} {ps : List V} {l : List Tri} (h : Paired (TriAt K H) ps l) (s : SameT H H') : Paired (TriAt K H') ps l := Paired.mapP h fun _ _ ⟨p, a, b⟩ => ⟨p, a, s.seqT b⟩
theorem tri_isD {K : PySem.W.Frag} {H : Hp} {ps : List V} {l : List Tri} (h : Paired (TriAt K H) ps l) : Paired (IsD K H) ps l := Paired.mapP h fun _ q ⟨p, a, b⟩ => by
  subst a
  exact Dp.tup b (.cons (.int _) (.cons (.int _) (.cons (.int _) .nil)))
def triRow (ns : List Int) (i m : Nat) : List Tri := (List.range m).map fun k => ⟨(i : Int), ((i + 1 + k : Nat) : Int), (lr (seg ns i (i + 1 + k)) 5 : Int)⟩
def tris (ns : List Int) (i : Nat) : List Tri := (List.range i).flatMap fun i => triRow ns i (ns.length - i)
theorem triRow_length {ns : List Int} {i m : Nat} : (triRow ns i m).length = m := by
  unfold triRow
  rw [List.length_map, List.length_range]
theorem triRow_succ {ns : List Int} {i m : Nat} : triRow ns i (m + 1) = triRow ns i m ++ [⟨(i : Int), ((i + 1 + m : Nat) : Int), (lr (seg ns i (i + 1 + m)) 5 : Int)⟩] := by
  unfold triRow
  rw [List.range_succ, List.map_append]
  rfl
theorem tris_succ {ns : List Int} {i : Nat} : tris ns (i + 1) = tris ns i ++ triRow ns i (ns.length - i) := by
  unfold tris
  rw [List.range_succ, List.flatMap_append]
  simp
theorem tris_length {ns : List Int} : ∀ i, (tris ns i).length ≤ i * ns.length
  | 0 => Nat.zero_le _
  | i + 1 => by
    rw [tris_succ, List.length_append, triRow_length, Nat.succ_mul]
    have := tris_length (ns := ns) i
    omega
theorem mem_tris {ns : List Int} {q : Tri} : ∀ {n : Nat}, q ∈ tris ns n ↔ ∃ i k, i < n ∧ k < ns.length - i ∧ q = ⟨(i : Int), ((i + 1 + k : Nat) : Int), (lr (seg ns i (i + 1 + k)) 5 : Int)⟩ := fun {n} => by
  unfold tris triRow
  rw [List.mem_flatMap]
  constructor
  · rintro ⟨i, hi, h⟩
    obtain ⟨k, hk, e⟩ := List.mem_map.mp h
    exact ⟨i, k, List.mem_range.mp hi, List.mem_range.mp hk, e.symm⟩
  · rintro ⟨i, k, hi, hk, e⟩
    exact ⟨i, List.mem_range.mpr hi, List.mem_map.mpr ⟨k, List.mem_range.mpr hk, e.symm⟩⟩
/-- a stretch that has fewer cells than its ends' prices differ by -/
def viol (cs : List Int) (q : Tri) : Bool := decide (q.c < cs.getD q.b.toNat 0 - cs.getD q.a.toNat 0)
theorem atI_last {xs : List V} {x : V} (h : xs[xs.length - 1]? = some x) : atI xs (-1) = some x := by
  have hp : 0 < xs.length := by
    cases xs with
    | nil => cases h
    | cons y r => exact Nat.succ_pos _
  unfold atI ixN
  rw [if_neg (by decide), if_pos (by omega)]
  have e : ((-1 : Int) + (xs.length : Int)).toNat = xs.length - 1 := by omega
  show xs[((-1 : Int) + (xs.length : Int)).toNat]? = some x
  rw [e]
  exact h
section
variable {P : Program} {w : World} {K : PySem.W.Frag} {mg : Str → Option Value} {base : Heap}
abbrev s__law_rooms : Stmt := top 58
abbrev N__law_rooms : List Str := ["_law_values_here", "_law_found", "_law_begin", "_law_end"]
abbrev P__law_rooms : List Str := ["_law_values_here"]
theorem sc__law_rooms : FnScope N__law_rooms P__law_rooms (defScope s__law_rooms) := ⟨rfl, rfl, rfl, by decide +kernel, rfl, by decide +kernel, by decide +kernel⟩
def spTri (K : PySem.W.Frag) : Sp := fun vs H Q _ => ∃ (a : Addr) (ns : List Int), vs = [.ref a] ∧ SqL K H a (ns.map V.int) ∧ Good ns ∧
  ∀ (H' : Hp) (p : Addr) (ps : List V), Same H H' → H p = none → H' p = some (.lst ps) → Paired (TriAt K H') ps (tris ns ns.length) → Q (.ref p) H'
theorem ok_trooms (T : Txt mg) (D : Df K mg "_law_rooms" s__law_rooms P__law_rooms) (G__law_least : Fn P w K mg base CX0 5 "_law_least" P__law_least (spBest K)) (G__law_room : Fn P w K mg base CX0 4 "_law_room" P__law_room (spLroom K 3)) : Fn P w K mg base CX0 6 "_law_rooms" P__law_rooms (spTri K) := by
  refine D.ok sc__law_rooms (fun vs H Q E h => ?_) (fun f cdv A outer s H vs Q E hr h => ?_)
  · obtain ⟨a, ns, rfl, _⟩ := h
    rfl
  · obtain ⟨a, ns, rfl, hS, G, k⟩ := h
    have nd := sc__law_rooms.nd
    refine ⟨_, (pss_cons (ps_set (i := 1) nd rfl (by first | exact Or.inl rfl | exact Or.inr rfl) (pe_lst pa_nil))
  (pss_cons (ps_for PassesOwn.never rfl (pi_range1 (by rfl) T.b_range (pa_cons (pe_callB call_len_seq (by rfl) T.b_len (by decide +kernel) (pa_cons (pv 0) pa_nil)) pa_nil)) (pg_name (i := 2) nd rfl (by first | exact Or.inl rfl | exact Or.inr rfl))
  (pss_one (ps_for PassesOwn.never rfl (pi_range2 (by rfl) T.b_range (pa_cons (pe_op op_add (pv 2) pe_int) (pa_cons (pe_op op_add (pe_callB call_len_seq (by rfl) T.b_len (by decide +kernel) (pa_cons (pv 0) pa_nil)) pe_int) pa_nil))) (pg_name (i := 3) nd rfl (by first | exact Or.inl rfl | exact Or.inr rfl))
  (pss_one (ps_expr (pe_bm PySem.F.plainAttrs_list PySem.F.slot_list_append PySem.F.type_list_append mt_append (pv 1) (pa_cons (pe_tup (pa_cons (pv 2) (pa_cons (pv 3) (pa_cons (pe_c G__law_room (hr.mono (by decide)) pass0 (pa_cons (pe_c G__law_least (hr.mono (by decide)) pass0 (pa_cons (pe_slice sl_list (pv 0) (po_some (pv 2)) (po_some (pv 3))) pa_nil)) pa_nil)) pa_nil)))) pa_nil)))))))
  (pss_one (ps_ret (pv 1))))), ?_⟩
    have few := G.few
    refine ⟨Nat.zero_le _, fun d nd0 => ?_⟩
    have sd := Same.upd (o := .lst []) nd0
    refine ⟨_, rfl, a, _, rfl, .inl (sd.seq hS), _, rfl, by omega, by rw [List.length_map]; omega, ?_⟩
    rw [List.length_map, Int.toNat_natCast]
    refine for_it (walk_range (lo := 0)) (fun i σ H' => (∃ (v2 v3 : Option V), σ = [some (.ref a), some (.ref d), v2, v3]) ∧ Same H H' ∧ ∃ ps, H' d = some (.lst ps) ∧ Paired (TriAt K H') ps (tris ns i)) ⟨⟨none, none, rfl⟩, sd, [], upd_same, .nil⟩ (fun _ _ _ _ _ => True.intro) ?_ ?_
    · rintro i x σ H3 H3' hi ⟨⟨v2, v3, rfl⟩, s3, ps, hd3, pr⟩ ⟨rfl, rfl⟩
      have ei : (0 : Int) + (i : Int) = (i : Int) := by omega
      have plen := Paired.length pr
      have tl := tris_length (ns := ns) i
      refine ⟨_, rfl, _, _, rfl, rfl, _, rfl, a, _, rfl, .inl (s3.seq hS), _, _, rfl, rfl, _, _, rfl, ⟨by omega, by omega, by omega, by rw [List.length_map]; omega⟩, ?_⟩
      have en : (((ns.map V.int).length : Int) + 1 - (0 + (i : Int) + 1)).toNat = ns.length - i := by
        rw [List.length_map]
        omega
      rw [en]
      refine for_it (walk_range (lo := 0 + (i : Int) + 1)) (fun q σ H' => (∃ (v3 : Option V), σ = [some (.ref a), some (.ref d), some (.int (0 + (i : Int))), v3]) ∧ Same H H' ∧ ∃ ps, H' d = some (.lst ps) ∧ Paired (TriAt K H') ps (tris ns i ++ triRow ns i q)) ⟨⟨v3, rfl⟩, s3, ps, hd3, by
        show Paired (TriAt K H3') ps (tris ns i ++ [])
        rw [List.append_nil]
        exact pr⟩ (fun _ _ _ _ _ => True.intro) ?_ ?_
      · rintro q x σ H4 H4' hq ⟨⟨w3, rfl⟩, s4, ps, hd4, pr⟩ ⟨rfl, rfl⟩
        have Gs := good_seg G (show i < i + 1 + q by omega) (by omega)
        have plen := Paired.length pr
        rw [List.length_append, triRow_length] at plen
        have hb : i * ns.length ≤ 32 * 32 := Nat.mul_le_mul (by omega) few
        refine ⟨_, rfl, .inl ⟨rfl, _, SqL.of hd4⟩, _, rfl, _, rfl, _, rfl, _, rfl, _, rfl, _, rfl, _, rfl, a, _, rfl, s4.seq hS, fun q1 nq1 => ?_⟩
        have e1 : (0 : Int) + (i : Int) + 1 + (q : Int) = (i : Int) + ((1 + q : Nat) : Int) := by omega
        have e2 : (0 : Int) + (i : Int) + 1 + (q : Int) = ((i + 1 + q : Nat) : Int) := by omega
        have es : seg ns i (i + 1 + q) = (ns.drop i).take (1 + q) := by
          unfold seg
          congr 1
          omega
        refine ⟨q1, seg ns i (i + 1 + q), rfl, SqL.of ?_, Gs, fun H5 p5 s5 hF => ?_⟩
        · rw [upd_same, e1, ei, cutV_part, ← List.map_drop, ← List.map_take, ← es]
        refine ⟨.ref p5, K3.room (bestF (seg ns i (i + 1 + q)) 5), 2, rfl, by decide, roomF hF (bestF_ok Gs), fun H6 s6 => ⟨(by show 3 ≤ sizeLine; decide), fun t nt => ?_⟩⟩
        have sA := ((Same.upd (o := .lst (cutV (ns.map V.int) (some (0 + (i : Int))) (some (0 + (i : Int) + 1 + (q : Int))))) nq1).trans s5).trans s6
        have sB := sA.upd' (o := .tup [.int (0 + (i : Int)), .int (0 + (i : Int) + 1 + (q : Int)), .int (K3.room (bestF (seg ns i (i + 1 + q)) 5) : Int)]) nt
        refine ⟨d, ps, _, rfl, rfl, sB _ _ hd4, by rw [sizeLine_eq]; omega, ?_⟩
        refine ⟨⟨_, rfl⟩, Same.put (s4.trans sB) nd0, _, upd_same, ?_⟩
        rw [triRow_succ, ← List.append_assoc]
        refine paired_snoc (tri_keep (tri_keep pr (.of sB)) (.lst (sB _ _ hd4))) ⟨t, rfl, (SameT.lst (sB _ _ hd4)).seqT (SqT.of ?_)⟩
        rw [upd_same, ei, bestF_room, show (i : Int) + 1 + (q : Int) = ((i + 1 + q : Nat) : Int) by omega]
      · rintro σ H4 ⟨⟨w3, rfl⟩, s4, ps, hd4, pr⟩
        refine ⟨⟨_, _, rfl⟩, s4, ps, hd4, ?_⟩
        rw [tris_succ]
        exact pr
    · rintro σ H3 ⟨⟨v2, v3, rfl⟩, s3, ps, hd3, pr⟩
      exact ⟨_, rfl, k _ d ps s3 nd0 hd3 pr⟩
abbrev s__law_due : Stmt := top 59
abbrev N__law_due : List Str := ["_law_values_here", "_law_rooms_here", "_law_row", "_law_one"]
abbrev P__law_due : List Str := ["_law_values_here", "_law_rooms_here", "_law_row"]
theorem sc__law_due : FnScope N__law_due P__law_due (defScope s__law_due) := ⟨rfl, rfl, rfl, by decide +kernel, rfl, by decide +kernel, by decide +kernel⟩
/-- what is due: the last price, or the refusal's telling -/
def spDue (K : PySem.W.Frag) : Sp := fun vs H Q _ => ∃ (a p r : Addr) (ns cs : List Int) (ps : List V), vs = [.ref a, .ref p, .ref r] ∧ SqL K H a (ns.map V.int) ∧ SqL K H p ps ∧ Paired (TriAt K H) ps (tris ns ns.length) ∧ SqL K H r (cs.map V.int) ∧ Good ns ∧ cs.length ≤ 1000 ∧
  (BoundOk ns cs → ∀ (H' : Hp) (c : Int), Same H H' → cs[ns.length]? = some c → Q (.int c) H') ∧ (¬ BoundOk ns cs → ∀ (H' : Hp) (t : Addr), Same H H' → H' t = some (.tup [.str "BadPrices", .int 0]) → Q (.ref t) H')
theorem ok_due (T : Txt mg) (D : Df K mg "_law_due" s__law_due P__law_due) : Fn P w K mg base CX0 1 "_law_due" P__law_due (spDue K) := by
  refine D.ok sc__law_due (fun vs H Q E h => ?_) (fun f cdv A outer s H vs Q E hr h => ?_)
  · obtain ⟨a, p, r, ns, cs, ps, rfl, _⟩ := h
    rfl
  · obtain ⟨a, p, r, ns, cs, ps, rfl, hS, hP, pr, hR, G, cl, kS, kE⟩ := h
    have nd := sc__law_due.nd
    refine ⟨_, (pss_cons (ps_if (PW.pt (pw_or (pt_cmpR op_ne (pe_callB call_len_seq (by rfl) T.b_len (by decide +kernel) (pa_cons (pv 2) pa_nil)) (pe_op op_add (pe_callB call_len_seq (by rfl) T.b_len (by decide +kernel) (pa_cons (pv 0) pa_nil)) pe_int) (nomark _)) (pw_or1 (pt_cmpR op_ne (pe_ix ix_list (pv 2) pe_int (fun _ _ => rfl)) pe_int (nomark _)))))
  (pss_one (ps_ret (pe_tup (pa_cons pe_str (pa_cons pe_int pa_nil)))))
  pss_nil)
  (pss_cons (ps_if (pt_cmpR (op_neM (α := List Tri) hr.units (by decide)) (pe_lc (own := [("_law_one", 3)]) (g := gName 3) (by rfl) nd  (pi_list (pv 1)) (blkOk_by (own := [("_law_one", 3)]) (N := N__law_due) (sc := defScope s__law_due) (by decide +kernel)) (fun _ _ _ _ _ => pg_name (i := 3) nd rfl (Or.inl rfl)) (fun _ _ _ _ _ => pts_one (pt_cmpR op_gt (pe_op op_sub (pe_ix (ix_listK (K := K) rfl) (pv 2) (pe_ix (ix_tupK (K := K) rfl) (pv 3) pe_int (fun _ _ => rfl)) (fun _ _ => rfl)) (pe_ix (ix_listK (K := K) rfl) (pv 2) (pe_ix (ix_tupK (K := K) rfl) (pv 3) pe_int (fun _ _ => rfl)) (fun _ _ => rfl))) (pe_ix (ix_tupK (K := K) rfl) (pv 3) pe_int (fun _ _ => rfl)) (nomark _))) (fun _ _ _ _ _ => (pv 3))) (pe_lst pa_nil) (nomark _))
  (pss_one (ps_ret (pe_tup (pa_cons pe_str (pa_cons pe_int pa_nil)))))
  pss_nil)
  (pss_one (ps_ret (pe_ix ix_list (pv 2) (pe_un un_neg pe_int) (fun _ _ => rfl)))))), ?_⟩
    have few := G.few
    refine ⟨_, rfl, r, _, rfl, .inl hR, _, rfl, a, _, rfl, .inl hS, _, _, rfl, rfl, rfl, _, rfl, ?_⟩
    refine ite2 (fun c => ?_) (fun c => ?_)
    · have c' : (!decide (V.int ((cs.map V.int).length : Int) = V.int (((ns.map V.int).length : Int) + 1))) = true := c
      refine ⟨(by show 2 ≤ sizeLine; decide), fun t nt => kE (fun B => ?_) _ t (Same.upd nt) upd_same⟩
      have e := B.len
      rw [decide_eq_true (by rw [List.length_map, List.length_map, e]; rfl)] at c'
      cases c'
    have hlen : cs.length = ns.length + 1 := by
      by_cases z : cs.length = ns.length + 1
      · exact z
      · refine absurd ?_ c
        show (!decide (V.int ((cs.map V.int).length : Int) = V.int (((ns.map V.int).length : Int) + 1))) = true
        rw [decide_eq_false (fun y => z (by have := V.int.inj y; rw [List.length_map, List.length_map] at this; omega))]
        rfl
    obtain ⟨c0, hc0⟩ : ∃ c0, cs[0]? = some c0 := ⟨_, List.getElem?_eq_getElem (by omega)⟩
    refine ⟨_, rfl, r, _, 0, .int c0, rfl, rfl, hR, at_of (z := 0) (j := 0) rfl (by rw [List.getElem?_map, hc0]; rfl), rfl, _, rfl, ?_⟩
    refine ite2 (fun c => ?_) (fun c => ?_)
    · have c' : (!decide (V.int c0 = V.int 0)) = true := c
      refine ⟨(by show 2 ≤ sizeLine; decide), fun t nt => kE (fun B => ?_) _ t (Same.upd nt) upd_same⟩
      have e := B.zero
      rw [hc0] at e
      rw [decide_eq_true (congrArg V.int (Option.some.inj e))] at c'
      cases c'
    have hz : cs[0]? = some 0 := by
      by_cases z : c0 = 0
      · rw [hc0, z]
      · refine absurd ?_ c
        show (!decide (V.int c0 = V.int 0)) = true
        rw [decide_eq_false (fun y => z (V.int.inj y))]
        rfl
    have plen := Paired.length pr
    have tl := tris_length (ns := ns) ns.length
    have tb : ns.length * ns.length ≤ 32 * 32 := Nat.mul_le_mul few few
    refine ⟨_, rfl, p, rfl, ⟨_, hP⟩, fun D0 nD => ?_⟩
    refine lc_if (walk_list (xs := ps)) (fun m H' => ∃ acc : List V, Same H H' ∧ H' D0 = some (.lst acc) ∧ Paired (TriAt K H') acc (((tris ns ns.length).take m).filter (viol cs))) ⟨[], Same.upd nD, upd_same, .nil⟩ (fun _ _ _ ⟨_, h, _⟩ => h.seq hP) ?_ ?_
    · rintro m x H3 H3' hm ⟨acc, s3, hD, pa⟩ ⟨rfl, e⟩
      obtain ⟨q, hq, pt, rfl, hpt⟩ := paired_at pr e
      have hqm := List.mem_of_getElem? hq
      obtain ⟨i, k', hi, hk, eq⟩ := mem_tris.mp hqm
      have alen := Paired.length pa
      have fl := List.length_filter_le (viol cs) ((tris ns ns.length).take m)
      rw [List.length_take] at fl
      obtain ⟨va, ha⟩ : ∃ va, cs[i]? = some va := ⟨_, List.getElem?_eq_getElem (by omega)⟩
      obtain ⟨vb, hb⟩ : ∃ vb, cs[i + 1 + k']? = some vb := ⟨_, List.getElem?_eq_getElem (by omega)⟩
      have hv : viol cs q = decide (q.c < vb - va) := by
        subst eq
        unfold viol
        show decide (_ < cs.getD ((i + 1 + k' : Nat) : Int).toNat 0 - cs.getD ((i : Nat) : Int).toNat 0) = _
        rw [Int.toNat_natCast, Int.toNat_natCast, List.getD_eq_getElem?_getD, List.getD_eq_getElem?_getD, ha, hb]
        rfl
      have qa : atI (cs.map V.int) q.a = some (.int va) := by
        subst eq
        exact atI_nat (by rw [List.getElem?_map, ha]; rfl)
      have qb : atI (cs.map V.int) q.b = some (.int vb) := by
        subst eq
        exact atI_nat (by rw [List.getElem?_map, hb]; rfl)
      have ef : ((tris ns ns.length).take (m + 1)).filter (viol cs) = ((tris ns ns.length).take m).filter (viol cs) ++ (if viol cs q then [q] else []) := by
        rw [take_more hq, List.filter_append]
        congr 1
        cases h : viol cs q <;> simp [h]
      have hpt3 := s3.seqT hpt
      refine ⟨_, rfl, _, rfl, pt, _, 1, _, rfl, rfl, hpt3, at_of (j := 1) (by omega) rfl, r, _, _, .int vb, rfl, rfl, s3.seq hR, qb, _, rfl, _, rfl, pt, _, 0, _, rfl, rfl, hpt3, at_of (j := 0) (by omega) rfl, r, _, _, .int va, rfl, rfl, s3.seq hR, qa, _, _, rfl, rfl, _, rfl, pt, _, 2, _, rfl, rfl, hpt3, at_of (j := 2) (by omega) rfl, _, _, rfl, rfl, _, rfl, ?_⟩
      refine ite2 (fun c => ?_) (fun c => ?_)
      · have c' : viol cs q = true := hv.trans c
        refine ⟨_, rfl, acc, hD, by rw [sizeLine_eq]; omega, acc ++ [.ref pt], Same.put s3 nD, upd_same, ?_⟩
        rw [ef, if_pos c']
        exact paired_snoc (tri_keep pa (.lst hD)) ⟨pt, rfl, (SameT.lst hD).seqT hpt3⟩
      · have c' : ¬ viol cs q = true := fun z => c (hv.symm.trans z)
        refine ⟨acc, s3, hD, ?_⟩
        rw [ef, if_neg c', List.append_nil]
        exact pa
    rintro H3 ⟨acc, s3, hD, pa⟩
    rw [plen, List.take_length] at pa
    refine ⟨Nat.zero_le _, fun e0 ne0 => ?_⟩
    have s4 := s3.trans (Same.upd (o := .lst []) ne0)
    have hD4 := Same.upd (o := .lst []) ne0 _ _ hD
    have pa4 := tri_keep pa (.of (Same.upd (o := .lst []) ne0))
    refine ⟨(tris ns ns.length).filter (viol cs), [], isD_lst (SqL.of hD4) (tri_isD pa4), isD_nil (SqL.of upd_same), _, rfl, ?_⟩
    refine ite2 (fun c => ?_) (fun c => ?_)
    · have c' : (!decide ((tris ns ns.length).filter (viol cs) = [])) = true := c
      have hne : (tris ns ns.length).filter (viol cs) ≠ [] := fun z => by
        rw [decide_eq_true z] at c'
        cases c'
      refine ⟨(by show 2 ≤ sizeLine; decide), fun t nt => kE (fun B => ?_) _ t (s4.upd' nt) upd_same⟩
      obtain ⟨q, hq⟩ := List.exists_mem_of_ne_nil _ hne
      obtain ⟨h1, h2⟩ := List.mem_filter.mp hq
      obtain ⟨i, k', hi, hk, eq⟩ := mem_tris.mp h1
      obtain ⟨va, ha⟩ : ∃ va, cs[i]? = some va := ⟨_, List.getElem?_eq_getElem (by omega)⟩
      obtain ⟨vb, hb⟩ : ∃ vb, cs[i + 1 + k']? = some vb := ⟨_, List.getElem?_eq_getElem (by omega)⟩
      have := B.gap i (i + 1 + k') va vb (by omega) (by omega) ha hb
      subst eq
      unfold viol at h2
      have h2 := of_decide_eq_true h2
      have h2 : (lr (seg ns i (i + 1 + k')) 5 : Int) < cs.getD ((i + 1 + k' : Nat) : Int).toNat 0 - cs.getD ((i : Nat) : Int).toNat 0 := h2
      rw [Int.toNat_natCast, Int.toNat_natCast, List.getD_eq_getElem?_getD, List.getD_eq_getElem?_getD, ha, hb] at h2
      have h2 : (lr (seg ns i (i + 1 + k')) 5 : Int) < vb - va := h2
      omega
    · have hnil : (tris ns ns.length).filter (viol cs) = [] := by
        by_cases z : (tris ns ns.length).filter (viol cs) = []
        · exact z
        · refine absurd ?_ c
          show (!decide ((tris ns ns.length).filter (viol cs) = [])) = true
          rw [decide_eq_false z]
          rfl
      have B : BoundOk ns cs := ⟨hlen, hz, fun i j x y h1 h2 hx hy => by
        obtain ⟨k', rfl⟩ : ∃ k', j = i + 1 + k' := ⟨j - i - 1, by omega⟩
        have hm : (⟨(i : Int), ((i + 1 + k' : Nat) : Int), (lr (seg ns i (i + 1 + k')) 5 : Int)⟩ : Tri) ∈ tris ns ns.length := mem_tris.mpr ⟨i, k', by omega, by omega, rfl⟩
        have hf := List.filter_eq_nil_iff.mp hnil _ hm
        unfold viol at hf
        have hf := of_decide_eq_false (Bool.eq_false_iff.mpr hf)
        have hf : ¬ (lr (seg ns i (i + 1 + k')) 5 : Int) < cs.getD ((i + 1 + k' : Nat) : Int).toNat 0 - cs.getD ((i : Nat) : Int).toNat 0 := hf
        rw [Int.toNat_natCast, Int.toNat_natCast, List.getD_eq_getElem?_getD, List.getD_eq_getElem?_getD, hx, hy] at hf
        have hf : ¬ (lr (seg ns i (i + 1 + k')) 5 : Int) < y - x := hf
        omega⟩
      obtain ⟨m, hm⟩ : ∃ m, cs[ns.length]? = some m := ⟨_, List.getElem?_eq_getElem (by omega)⟩
      refine ⟨_, rfl, _, rfl, r, _, _, .int m, rfl, rfl, s4.seq hR, atI_last ?_, kS B _ _ s4 hm⟩
      rw [List.length_map, hlen, List.getElem?_map]
      show (cs[ns.length]?).map V.int = _
      rw [hm]
      rfl
end
end K3

set_option Elab.async false
set_option linter.all false
set_option maxRecDepth 100000
set_option maxHeartbeats 4000000
/-! K6B: prices told otherwise -/
namespace K3
open PySem PySem.Spec PyProof.Rows L2
def cutI (ns : List Int) (lo hi : Option Int) : List Int := (ns.drop (HT.sIx ns.length 0 lo)).take (HT.sIx ns.length ns.length hi - HT.sIx ns.length 0 lo)
theorem cutV_ints (ns : List Int) (lo hi : Option Int) : cutV (ns.map V.int) lo hi = (cutI ns lo hi).map V.int := by
  unfold cutV cutI
  rw [List.length_map, List.map_take, List.map_drop]
theorem cutI_le (ns : List Int) (lo hi : Option Int) : (cutI ns lo hi).length ≤ ns.length := by
  unfold cutI
  rw [List.length_take, List.length_drop]
  omega
theorem cutV_le (ns : List Int) (lo hi : Option Int) : (cutV (ns.map V.int) lo hi).length ≤ ns.length := by
  rw [cutV_ints, List.length_map]
  exact cutI_le ns lo hi
/-- a new list of numbers, apart from the box and from d -/
def Nw (H0 H : Hp) (b l d : Addr) (n : Nat) (x : V) : Prop := ∃ p, ∃ xs : List Int, x = .ref p ∧ H0 p = none ∧ p ≠ b ∧ p ≠ l ∧ p ≠ d ∧ H p = some (.lst (xs.map V.int)) ∧ xs.length ≤ n
theorem Nw.same {H0 H H' : Hp} {b l d : Addr} {n : Nat} {x : V} (h : Nw H0 H b l d n x) (s : Same H H') : Nw H0 H' b l d n x := by
  obtain ⟨p, xs, h1, h2, h3, h4, h5, h6, h7⟩ := h
  exact ⟨p, xs, h1, h2, h3, h4, h5, s _ _ h6, h7⟩
theorem Nw.put {H0 H : Hp} {b l d : Addr} {n : Nat} {x : V} {o : HO} (h : Nw H0 H b l d n x) : Nw H0 (upd H d o) b l d n x := by
  obtain ⟨p, xs, h1, h2, h3, h4, h5, h6, h7⟩ := h
  exact ⟨p, xs, h1, h2, h3, h4, h5, (upd_ne h5).trans h6, h7⟩
theorem Nw.re {H0 H : Hp} {b l d e : Addr} {n : Nat} {x : V} (h : Nw H0 H b l d n x) (ne : H e = none) : Nw H0 H b l e n x := by
  obtain ⟨p, xs, h1, h2, h3, h4, h5, h6, h7⟩ := h
  exact ⟨p, xs, h1, h2, h3, h4, ne_of_none h6 ne, h6, h7⟩
theorem Bx.freeO {b l p : Addr} {H H' : Hp} (B : Bx H' b l) (O : Out b l H H') (n : H' p = none) : H p = none ∧ p ≠ b ∧ p ≠ l := by
  obtain ⟨h1, h2⟩ := B.free n
  refine ⟨?_, h1, h2⟩
  cases e : H p with
  | none => rfl
  | some o =>
    rw [O p o h1 h2 e] at n
    cases n
theorem fit2 {a c : Nat} {k : Nat} (h1 : a ≤ k) (h2 : c ≤ k) (hk : k ≤ 1000) : a + c ≤ sizeLine := by rw [sizeLine_eq]; omega
section
variable {P : Program} {w : World} {K : PySem.W.Frag} {mg : Str → Option Value} {base : Heap}
abbrev s__law_bent : Stmt := top 60
abbrev N__law_bent : List Str := ["_law_box", "_law_row", "_law_at", "_law_more", "_law_some", "_law_price"]
abbrev P__law_bent : List Str := ["_law_box", "_law_row"]
theorem sc__law_bent : FnScope N__law_bent P__law_bent (defScope s__law_bent) := ⟨rfl, rfl, rfl, by decide +kernel, rfl, by decide +kernel, by decide +kernel⟩
def spBent (K : PySem.W.Frag) : Sp := fun vs H Q _ => ∃ (b l r : Addr) (cs : List Int), vs = [.ref b, .ref r] ∧ Bx H b l ∧ H r = some (.lst (cs.map V.int)) ∧ r ≠ b ∧ r ≠ l ∧ cs ≠ [] ∧ cs.length ≤ 100 ∧
  ∀ (H' : Hp) (p : Addr) (xs : List Int), Bx H' b l → Out b l H H' → H p = none → p ≠ b → p ≠ l → H' p = some (.lst (xs.map V.int)) → xs.length ≤ 3 * cs.length → Q (.ref p) H'
theorem ok_bent (T : Txt mg) (D : Df K mg "_law_bent" s__law_bent P__law_bent) (G__law_take : Fn P w K mg base CX0 1 "_law_take" P__law_take spTake) : Fn P w K mg base CX0 2 "_law_bent" P__law_bent (spBent K) := by
  refine D.ok sc__law_bent (fun vs H Q E h => ?_) (fun f cdv A outer s H vs Q E hr h => ?_)
  · obtain ⟨b, l, r, cs, rfl, _⟩ := h
    rfl
  · obtain ⟨b, l, r, cs, rfl, B, hr0, rb, rl, cne, cl, k⟩ := h
    have nd := sc__law_bent.nd
    refine ⟨_, (pss_cons (ps_set (i := 2) nd rfl (by first | exact Or.inl rfl | exact Or.inr rfl) (pe_ix ix_list (pe_lst (pa_cons (pe_c G__law_take (hr.mono (by decide)) pass0 (pa_cons (pv 0) (pa_cons (pe_callB call_len_seq (by rfl) T.b_len (by decide +kernel) (pa_cons (pv 1) pa_nil)) pa_nil))) (pa_cons (pe_op op_sub (pe_callB call_len_seq (by rfl) T.b_len (by decide +kernel) (pa_cons (pv 1) pa_nil)) pe_int) pa_nil))) (pe_op op_fdiv (pe_c G__law_take (hr.mono (by decide)) pass0 (pa_cons (pv 0) (pa_cons pe_int pa_nil))) pe_int) (fun _ _ => rfl)))
  (pss_cons (ps_set (i := 3) nd rfl (by first | exact Or.inl rfl | exact Or.inr rfl) (pe_ix ix_list (pe_lst (pa_cons pe_int (pa_cons pe_int (pa_cons (pe_op op_add pe_int (pe_c G__law_take (hr.mono (by decide)) pass0 (pa_cons (pv 0) (pa_cons pe_int pa_nil)))) (pa_cons (pe_op op_pow pe_int pe_int) pa_nil))))) (pe_c G__law_take (hr.mono (by decide)) pass0 (pa_cons (pv 0) (pa_cons pe_int pa_nil))) (fun _ _ => rfl)))
  (pss_cons (ps_set (i := 4) nd rfl (by first | exact Or.inl rfl | exact Or.inr rfl) (pe_lst (pa_cons (pe_op op_cat (pe_op op_cat (pe_slice sl_list (pv 1) po_none (po_some (pv 2))) (pe_lst (pa_cons (pe_op op_add (pe_ix ix_list (pv 1) (pv 2) (fun _ _ => rfl)) (pv 3)) pa_nil))) (pe_slice sl_list (pv 1) (po_some (pe_op op_add (pv 2) pe_int)) po_none)) pa_nil)))
  (pss_cons (ps_expr (pe_bm PySem.F.plainAttrs_list PySem.F.slot_list_append PySem.F.type_list_append mt_append (pv 4) (pa_cons (pe_op op_cat (pe_op op_cat (pe_slice sl_list (pv 1) po_none (po_some (pv 2))) (pe_lst (pa_cons (pe_op op_sub (pe_ix ix_list (pv 1) (pv 2) (fun _ _ => rfl)) (pv 3)) pa_nil))) (pe_slice sl_list (pv 1) (po_some (pe_op op_add (pv 2) pe_int)) po_none)) pa_nil)))
  (pss_cons (ps_expr (pe_bm PySem.F.plainAttrs_list PySem.F.slot_list_append PySem.F.type_list_append mt_append (pv 4) (pa_cons (pe_op op_cat (pe_slice sl_list (pv 1) po_none (po_some (pv 2))) (pe_slice sl_list (pv 1) (po_some (pe_op op_add (pv 2) pe_int)) po_none)) pa_nil)))
  (pss_cons (ps_expr (pe_bm PySem.F.plainAttrs_list PySem.F.slot_list_append PySem.F.type_list_append mt_append (pv 4) (pa_cons (pe_op op_cat (pe_op op_cat (pe_slice sl_list (pv 1) po_none (po_some (pv 2))) (pe_lst (pa_cons (pe_ix ix_list (pv 1) (pv 2) (fun _ _ => rfl)) pa_nil))) (pe_slice sl_list (pv 1) (po_some (pv 2)) po_none)) pa_nil)))
  (pss_cons (ps_expr (pe_bm PySem.F.plainAttrs_list PySem.F.slot_list_append PySem.F.type_list_append mt_append (pv 4) (pa_cons (pe_lc (own := [("_law_price", 5)]) (g := gName 5) (by rfl) nd  (pi_list (pv 1)) (blkOk_by (own := [("_law_price", 5)]) (N := N__law_bent) (sc := defScope s__law_bent) (by decide +kernel)) (fun _ _ _ _ _ => pg_name (i := 5) nd rfl (Or.inl rfl)) (fun _ _ _ _ _ => pts_nil) (fun _ _ _ _ _ => (pe_op op_fdiv (pv 5) pe_int))) pa_nil)))
  (pss_cons (ps_set (i := 4) nd rfl (by first | exact Or.inl rfl | exact Or.inr rfl) (pe_op op_cat (pv 4) (pe_lst (pa_cons (pe_lc (own := [("_law_price", 5)]) (g := gName 5) (by rfl) nd  (pi_list (pv 1)) (blkOk_by (own := [("_law_price", 5)]) (N := N__law_bent) (sc := defScope s__law_bent) (by decide +kernel)) (fun _ _ _ _ _ => pg_name (i := 5) nd rfl (Or.inl rfl)) (fun _ _ _ _ _ => pts_nil) (fun _ _ _ _ _ => (pe_callB (call_max2 rfl) (by rfl) T.b_max (by decide +kernel) (pa_cons pe_int (pa_cons (pe_op op_sub (pv 5) pe_int) pa_nil))))) (pa_cons (pe_op op_rep (pe_lst (pa_cons pe_int pa_nil)) (pe_callB call_len_seq (by rfl) T.b_len (by decide +kernel) (pa_cons (pv 1) pa_nil))) pa_nil)))))
  (pss_cons (ps_expr (pe_bm PySem.F.plainAttrs_list PySem.F.slot_list_append PySem.F.type_list_append mt_append (pv 4) (pa_cons (pe_lc (own := [("_law_price", 5)]) (g := gName 5) (by rfl) nd  (pi_list (pv 1)) (blkOk_by (own := [("_law_price", 5)]) (N := N__law_bent) (sc := defScope s__law_bent) (by decide +kernel)) (fun _ _ _ _ _ => pg_name (i := 5) nd rfl (Or.inl rfl)) (fun _ _ _ _ _ => pts_nil) (fun _ _ _ _ _ => (pe_op op_add (pv 5) pe_int))) pa_nil)))
  (pss_one (ps_ret (pe_ix ix_list (pv 4) (pe_c G__law_take (hr.mono (by decide)) pass0 (pa_cons (pv 0) (pa_cons pe_int pa_nil))) (fun _ _ => rfl))))))))))))), ?_⟩
    have cp := List.length_pos_iff.mpr cne
    have cml : ((cs.map V.int).length : Int) = (cs.length : Int) := by rw [List.length_map]
    -- at
    refine ⟨_, rfl, _, rfl, r, _, rfl, .inl (SqL.of hr0), b, l, _, rfl, B, by omega, by omega, fun H1 t1 B1 O1 t10 t11 => ?_⟩
    have hr1 := O1.at rb rl hr0
    refine ⟨_, rfl, r, _, rfl, .inl (SqL.of hr1), _, _, rfl, rfl, (by show 2 ≤ sizeLine; decide), fun q nq => ?_⟩
    have sq := Same.upd (H := H1) (o := .lst ([t1, ((cs.map V.int).length : Int) - 1].map V.int)) nq
    refine ⟨_, rfl, b, l, _, rfl, B1.same sq, by decide, by decide, fun H2 t2 B2 O2 t20 t21 => ⟨_, _, rfl, rfl, ⟨by decide, by decide⟩, ?_⟩⟩
    have O02 := (O1.trans (.of sq)).trans O2
    have hr2 := O2.at rb rl (sq _ _ hr1)
    obtain ⟨at_, am, aa⟩ := pickI (zs := [t1, ((cs.map V.int).length : Int) - 1]) (v := t2 / 2) (by omega) (by show t2 / 2 < 2; omega)
    have ab : 0 ≤ at_ ∧ at_ < (cs.length : Int) := by
      simp only [List.mem_cons, List.not_mem_nil, or_false] at am
      omega
    refine ⟨q, _, _, _, rfl, rfl, SqL.of (O2.at (B1.free nq).1 (B1.free nq).2 upd_same), aa, ?_⟩
    -- more
    refine ⟨_, rfl, b, l, _, rfl, B2, by decide, by decide, fun H3 t3 B3 O3 t30 t31 => ⟨_, _, rfl, rfl, _, _, rfl, rfl, ⟨by decide, by decide⟩, (by show 4 ≤ sizeLine; decide), fun q2 nq2 => ?_⟩⟩
    have sq2 := Same.upd (H := H3) (o := .lst ([1, 2, 1 + t3, 10 ^ 18].map V.int)) nq2
    refine ⟨_, rfl, b, l, _, rfl, B3.same sq2, by decide, by decide, fun H4 t4 B4 O4 t40 t41 => ?_⟩
    have O04 := ((O02.trans O3).trans (.of sq2)).trans O4
    obtain ⟨m, _, ma⟩ := pickI (zs := [1, 2, 1 + t3, 10 ^ 18]) t40 t41
    refine ⟨q2, _, _, _, rfl, rfl, SqL.of (O4.at (B3.free nq2).1 (B3.free nq2).2 upd_same), ma, ?_⟩
    have hR4 : H4 r = some (.lst (cs.map V.int)) := O4.at rb rl (sq2 _ _ (O3.at rb rl hr2))
    obtain ⟨j, rfl⟩ : ∃ j : Nat, at_ = (j : Int) := ⟨at_.toNat, by omega⟩
    obtain ⟨v, hv0⟩ : ∃ v, cs[j]? = some v := ⟨_, List.getElem?_eq_getElem (by omega)⟩
    have hv : atI (cs.map V.int) (j : Int) = some (.int v) := atI_nat (by rw [List.getElem?_map, hv0]; rfl)
    have new : ∀ {H' : Hp} {p d : Addr} {xs : List Int}, Same H4 H' → H4 p = none → p ≠ d → H' p = some (.lst (xs.map V.int)) → xs.length ≤ 3 * cs.length → Nw H H' b l d (3 * cs.length) (.ref p) := fun {H' p d xs} s n nd h1 h2 => by
      obtain ⟨a1, a2, a3⟩ := B4.freeO O04 n
      exact ⟨p, xs, rfl, a1, a2, a3, nd, h1, h2⟩
    suffices hh : ∀ H', Same H4 H' → _ from hh H4 (Same.refl _)
    intro Hc s0
    have hR : ∀ {H'}, Same H4 H' → SqL K H' r (cs.map V.int) := fun s => SqL.of (s _ _ hR4)
    refine ⟨_, rfl, _, rfl, _, rfl, r, _, rfl, hR s0, fun q1 m1 => ?_⟩
    refine ⟨_, rfl, _, rfl, r, _, _, .int v, rfl, rfl, hR (s0.trans (Same.upd m1)), hv, _, rfl, _, _, rfl, rfl, (by show 1 ≤ sizeLine; decide), fun q2 m2 => ?_⟩
    refine ⟨q1, q2, _, _, rfl, rfl, Same.upd m2 _ _ upd_same, upd_same, fit2 (k := 1000) (Nat.le_trans (cutV_le _ _ _) (by omega)) (by show 1 ≤ 1000; decide) (by decide), fun q3 m3 => ?_⟩
    refine ⟨_, rfl, _, rfl, _, _, rfl, rfl, _, rfl, r, _, rfl, hR (s0.trans (((Same.upd m1).upd' m2).upd' m3)), fun q4 m4 => ?_⟩
    refine ⟨q3, q4, _, _, rfl, rfl, Same.upd m4 _ _ upd_same, upd_same, fit2 (k := 1000) (by rw [List.length_append]; exact Nat.le_trans (Nat.add_le_add_right (cutV_le _ _ _) 1) (by omega)) (Nat.le_trans (cutV_le _ _ _) (by omega)) (by decide), fun q5 m5 => ?_⟩
    suffices hh : ∀ H', Same Hc H' → H' q5 = some (.lst ((cutI cs none (some (j : Int)) ++ [v + m] ++ cutI cs (some ((j : Int) + 1)) none).map V.int)) → _ from hh _ (((((Same.upd m1).upd' m2).upd' m3).upd' m4).upd' m5) (by rw [upd_same, cutV_ints, cutV_ints, List.map_append, List.map_append]; rfl)
    have f1 : Hc q5 = none := (((((Same.upd m1).upd' m2).upd' m3).upd' m4).free m5)
    intro He1 se1 hq1
    have le1 : (cutI cs none (some (j : Int)) ++ [v + m] ++ cutI cs (some ((j : Int) + 1)) none).length ≤ 3 * cs.length := by
      have a1 := cutI_le cs none (some (j : Int))
      have a2 := cutI_le cs (some ((j : Int) + 1)) none
      simp only [List.length_append, List.length_singleton]
      omega
    generalize cutI cs none (some (j : Int)) ++ [v + m] ++ cutI cs (some ((j : Int) + 1)) none = zs1 at hq1 le1
    refine ⟨(by show 1 ≤ sizeLine; decide), fun d nd0 => ?_⟩
    have fd := (s0.trans se1).free nd0
    suffices hh : ∀ H', Same H4 H' → (∃ acc, H' d = some (.lst acc) ∧ acc.length = 1 ∧ ∀ x ∈ acc, Nw H H' b l d (3 * cs.length) x) → _ from hh _ ((s0.trans se1).upd' nd0) ⟨_, upd_same, rfl, fun x hx => by
      rw [List.mem_singleton.mp hx]
      exact new ((s0.trans se1).upd' nd0) (s0.free f1) (ne_of_none hq1 nd0) (Same.upd nd0 _ _ hq1) le1⟩
    clear hq1 le1 se1 nd0 f1
    intro Hd sd1 ⟨acc1, hd1, al1, hn1⟩
    refine ⟨_, rfl, .inl ⟨rfl, _, SqL.of hd1⟩, _, rfl, _, rfl, _, rfl, r, _, rfl, hR sd1, fun q1 m1 => ?_⟩
    refine ⟨_, rfl, _, rfl, r, _, _, .int v, rfl, rfl, hR (sd1.trans (Same.upd m1)), hv, _, rfl, _, _, rfl, rfl, (by show 1 ≤ sizeLine; decide), fun q2 m2 => ?_⟩
    refine ⟨q1, q2, _, _, rfl, rfl, Same.upd m2 _ _ upd_same, upd_same, fit2 (k := 1000) (Nat.le_trans (cutV_le _ _ _) (by omega)) (by show 1 ≤ 1000; decide) (by decide), fun q3 m3 => ?_⟩
    refine ⟨_, rfl, _, rfl, _, _, rfl, rfl, _, rfl, r, _, rfl, hR (sd1.trans (((Same.upd m1).upd' m2).upd' m3)), fun q4 m4 => ?_⟩
    refine ⟨q3, q4, _, _, rfl, rfl, Same.upd m4 _ _ upd_same, upd_same, fit2 (k := 1000) (by rw [List.length_append]; exact Nat.le_trans (Nat.add_le_add_right (cutV_le _ _ _) 1) (by omega)) (Nat.le_trans (cutV_le _ _ _) (by omega)) (by decide), fun q5 m5 => ?_⟩
    suffices hh : ∀ H', Same Hd H' → H' q5 = some (.lst ((cutI cs none (some (j : Int)) ++ [v - m] ++ cutI cs (some ((j : Int) + 1)) none).map V.int)) → _ from hh _ (((((Same.upd m1).upd' m2).upd' m3).upd' m4).upd' m5) (by rw [upd_same, cutV_ints, cutV_ints, List.map_append, List.map_append]; rfl)
    have f2 : Hd q5 = none := (((((Same.upd m1).upd' m2).upd' m3).upd' m4).free m5)
    intro He2 se2 hq2
    have le2 : (cutI cs none (some (j : Int)) ++ [v - m] ++ cutI cs (some ((j : Int) + 1)) none).length ≤ 3 * cs.length := by
      have a1 := cutI_le cs none (some (j : Int))
      have a2 := cutI_le cs (some ((j : Int) + 1)) none
      simp only [List.length_append, List.length_singleton]
      omega
    generalize cutI cs none (some (j : Int)) ++ [v - m] ++ cutI cs (some ((j : Int) + 1)) none = zs2 at hq2 le2
    refine ⟨d, acc1, _, rfl, rfl, se2 _ _ hd1, by rw [al1]; decide, ?_⟩
    suffices hh : ∀ H', Same H4 H' → (∃ acc, H' d = some (.lst acc) ∧ acc.length = 2 ∧ ∀ x ∈ acc, Nw H H' b l d (3 * cs.length) x) → _ from hh _ (Same.put (sd1.trans se2) fd) ⟨_, upd_same, by rw [List.length_append, al1]; rfl, fun x hx => by
      rcases List.mem_append.mp hx with z | z
      · exact ((hn1 x z).same se2).put
      · rw [List.mem_singleton.mp z]
        exact (new (d := d) (sd1.trans se2) (sd1.free f2) (ne_of_none hd1 f2).symm hq2 le2).put⟩
    clear hq2 le2 se2 f2
    intro Hd2 sd2 ⟨acc2, hd2, al2, hn2⟩
    refine ⟨_, rfl, .inl ⟨rfl, _, SqL.of hd2⟩, _, rfl, _, rfl, _, rfl, r, _, rfl, hR sd2, fun q1 m1 => ?_⟩
    refine ⟨_, rfl, _, rfl, _, _, rfl, rfl, _, rfl, r, _, rfl, hR (sd2.trans (Same.upd m1)), fun q2 m2 => ?_⟩
    refine ⟨q1, q2, _, _, rfl, rfl, Same.upd m2 _ _ upd_same, upd_same, fit2 (k := 1000) (Nat.le_trans (cutV_le _ _ _) (by omega)) (Nat.le_trans (cutV_le _ _ _) (by omega)) (by decide), fun q5 m3 => ?_⟩
    suffices hh : ∀ H', Same Hd2 H' → H' q5 = some (.lst ((cutI cs none (some (j : Int)) ++ cutI cs (some ((j : Int) + 1)) none).map V.int)) → _ from hh _ (((Same.upd m1).upd' m2).upd' m3) (by rw [upd_same, cutV_ints, cutV_ints, List.map_append])
    have f3 : Hd2 q5 = none := (((Same.upd m1).upd' m2).free m3)
    intro He3 se3 hq3
    have le3 : (cutI cs none (some (j : Int)) ++ cutI cs (some ((j : Int) + 1)) none).length ≤ 3 * cs.length := by
      have a1 := cutI_le cs none (some (j : Int))
      have a2 := cutI_le cs (some ((j : Int) + 1)) none
      simp only [List.length_append, List.length_singleton]
      omega
    generalize cutI cs none (some (j : Int)) ++ cutI cs (some ((j : Int) + 1)) none = zs3 at hq3 le3
    refine ⟨d, acc2, _, rfl, rfl, se3 _ _ hd2, by rw [al2]; decide, ?_⟩
    suffices hh : ∀ H', Same H4 H' → (∃ acc, H' d = some (.lst acc) ∧ acc.length = 3 ∧ ∀ x ∈ acc, Nw H H' b l d (3 * cs.length) x) → _ from hh _ (Same.put (sd2.trans se3) fd) ⟨_, upd_same, by rw [List.length_append, al2]; rfl, fun x hx => by
      rcases List.mem_append.mp hx with z | z
      · exact ((hn2 x z).same se3).put
      · rw [List.mem_singleton.mp z]
        exact (new (d := d) (sd2.trans se3) (sd2.free f3) (ne_of_none hd2 f3).symm hq3 le3).put⟩
    clear hq3 le3 se3 f3
    intro Hd3 sd3 ⟨acc3, hd3, al3, hn3⟩
    refine ⟨_, rfl, .inl ⟨rfl, _, SqL.of hd3⟩, _, rfl, _, rfl, _, rfl, r, _, rfl, hR sd3, fun q1 m1 => ?_⟩
    refine ⟨_, rfl, _, rfl, r, _, _, .int v, rfl, rfl, hR (sd3.trans (Same.upd m1)), hv, (by show 1 ≤ sizeLine; decide), fun q2 m2 => ?_⟩
    refine ⟨q1, q2, _, _, rfl, rfl, Same.upd m2 _ _ upd_same, upd_same, fit2 (k := 1000) (Nat.le_trans (cutV_le _ _ _) (by omega)) (by show 1 ≤ 1000; decide) (by decide), fun q3 m3 => ?_⟩
    refine ⟨_, rfl, _, rfl, _, rfl, r, _, rfl, hR (sd3.trans (((Same.upd m1).upd' m2).upd' m3)), fun q4 m4 => ?_⟩
    refine ⟨q3, q4, _, _, rfl, rfl, Same.upd m4 _ _ upd_same, upd_same, fit2 (k := 1000) (by rw [List.length_append]; exact Nat.le_trans (Nat.add_le_add_right (cutV_le _ _ _) 1) (by omega)) (Nat.le_trans (cutV_le _ _ _) (by omega)) (by decide), fun q5 m5 => ?_⟩
    suffices hh : ∀ H', Same Hd3 H' → H' q5 = some (.lst ((cutI cs none (some (j : Int)) ++ [v] ++ cutI cs (some ((j : Int))) none).map V.int)) → _ from hh _ (((((Same.upd m1).upd' m2).upd' m3).upd' m4).upd' m5) (by rw [upd_same, cutV_ints, cutV_ints, List.map_append, List.map_append]; rfl)
    have f4 : Hd3 q5 = none := (((((Same.upd m1).upd' m2).upd' m3).upd' m4).free m5)
    intro He4 se4 hq4
    have le4 : (cutI cs none (some (j : Int)) ++ [v] ++ cutI cs (some ((j : Int))) none).length ≤ 3 * cs.length := by
      have a1 := cutI_le cs none (some (j : Int))
      have a2 := cutI_le cs (some ((j : Int))) none
      simp only [List.length_append, List.length_singleton]
      omega
    generalize cutI cs none (some (j : Int)) ++ [v] ++ cutI cs (some ((j : Int))) none = zs4 at hq4 le4
    refine ⟨d, acc3, _, rfl, rfl, se4 _ _ hd3, by rw [al3]; decide, ?_⟩
    suffices hh : ∀ H', Same H4 H' → (∃ acc, H' d = some (.lst acc) ∧ acc.length = 4 ∧ ∀ x ∈ acc, Nw H H' b l d (3 * cs.length) x) → _ from hh _ (Same.put (sd3.trans se4) fd) ⟨_, upd_same, by rw [List.length_append, al3]; rfl, fun x hx => by
      rcases List.mem_append.mp hx with z | z
      · exact ((hn3 x z).same se4).put
      · rw [List.mem_singleton.mp z]
        exact (new (d := d) (sd3.trans se4) (sd3.free f4) (ne_of_none hd3 f4).symm hq4 le4).put⟩
    clear hq4 le4 se4 f4
    intro Hd4 sd4 ⟨acc4, hd4, al4, hn4⟩
    -- // 2
    have hRd := hR sd4
    refine ⟨_, rfl, .inl ⟨rfl, _, SqL.of hd4⟩, _, rfl, r, rfl, ⟨_, hRd⟩, fun D nD => ?_⟩
    refine lc_all (walk_list (xs := cs.map V.int)) (fun i H' => Same Hd4 H' ∧ H' D = some (.lst (((cs.take i).map (· / 2)).map V.int))) ⟨Same.upd nD, upd_same⟩ (fun _ _ _ h => h.1.seq hRd) ?_ ?_
    · rintro i x H2' H3' hi ⟨s2, hD⟩ ⟨rfl, e⟩
      rw [List.length_map] at hi
      obtain ⟨z, hz, rfl⟩ := map_at e
      refine ⟨_, rfl, _, _, rfl, rfl, ⟨by decide, by decide⟩, _, hD, ?_, Same.put s2 nD, ?_⟩
      · rw [List.length_map, List.length_map, List.length_take, sizeLine_eq]
        omega
      · rw [upd_same, take_more hz, List.map_append, List.map_append]
        rfl
    rintro He5 ⟨se5, hq5⟩
    rw [List.length_map, List.take_length] at hq5
    refine ⟨d, acc4, _, rfl, rfl, se5 _ _ hd4, by rw [al4]; decide, ?_⟩
    suffices hh : ∀ H', Same H4 H' → (∃ acc, H' d = some (.lst acc) ∧ acc.length = 5 ∧ ∀ x ∈ acc, Nw H H' b l d (3 * cs.length) x) → _ from hh _ (Same.put (sd4.trans se5) fd) ⟨_, upd_same, by rw [List.length_append, al4]; rfl, fun x hx => by
      rcases List.mem_append.mp hx with z | z
      · exact ((hn4 x z).same se5).put
      · rw [List.mem_singleton.mp z]
        exact (new (d := d) (sd4.trans se5) (sd4.free nD) (ne_of_none hd4 nD).symm hq5 (by rw [List.length_map]; omega)).put⟩
    clear hq5 se5 hRd nD
    intro Hd5 sd5 ⟨acc5, hd5, al5, hn5⟩
    -- max(0, .. - 1), [0] * len
    have hRd := hR sd5
    refine ⟨_, rfl, _, rfl, r, rfl, ⟨_, hRd⟩, fun D nD => ?_⟩
    refine lc_all (walk_list (xs := cs.map V.int)) (fun i H' => Same Hd5 H' ∧ H' D = some (.lst (((cs.take i).map fun z => if z - 1 > 0 then z - 1 else 0).map V.int))) ⟨Same.upd nD, upd_same⟩ (fun _ _ _ h => h.1.seq hRd) ?_ ?_
    · rintro i x H2' H3' hi ⟨s2, hD⟩ ⟨rfl, e⟩
      rw [List.length_map] at hi
      obtain ⟨z, hz, rfl⟩ := map_at e
      refine ⟨_, rfl, _, _, rfl, rfl, _, _, rfl, _, hD, ?_, Same.put s2 nD, ?_⟩
      · rw [List.length_map, List.length_map, List.length_take, sizeLine_eq]
        omega
      · rw [upd_same, take_more hz, List.map_append, List.map_append]
        rfl
    rintro He6 ⟨se6, hq6⟩
    rw [List.length_map, List.take_length] at hq6
    have s6 := sd5.trans se6
    refine ⟨(by show 1 ≤ sizeLine; decide), fun z1 nz1 => ?_⟩
    refine ⟨_, rfl, r, _, rfl, .inl (hR (s6.trans (Same.upd nz1))), z1, _, _, rfl, rfl, upd_same, by omega, by rw [List.length_map]; omega, ?_, fun z2 nz2 => ?_⟩
    · rw [List.length_map, sizeLine_eq]
      simp
      omega
    refine ⟨(by show 2 ≤ sizeLine; decide), fun z3 nz3 => ?_⟩
    have s63 := ((Same.upd nz1).upd' nz2).upd' (o := .lst [.ref D, .ref z2]) nz3
    refine ⟨d, z3, acc5, _, rfl, rfl, s63 _ _ (se6 _ _ hd5), upd_same, by rw [al5]; show 5 + 2 ≤ sizeLine; decide, fun e ne => ?_⟩
    have fe := (s6.trans s63).free ne
    suffices hh : ∀ H', Same H4 H' → (∃ acc, H' e = some (.lst acc) ∧ acc.length = 7 ∧ ∀ x ∈ acc, Nw H H' b l e (3 * cs.length) x) → _ from hh _ ((s6.trans s63).upd' ne) ⟨_, upd_same, by rw [List.length_append, al5]; rfl, fun x hx => by
      rcases List.mem_append.mp hx with z | z
      · exact (((((hn5 x z).same se6).same s63)).re ne).same (Same.upd ne)
      · rcases List.mem_cons.mp z with z | z
        · rw [z]
          exact new ((s6.trans s63).upd' ne) (sd5.free nD) (ne_of_none (s63 _ _ hq6) ne) (Same.upd ne _ _ (s63 _ _ hq6)) (by rw [List.length_map]; omega)
        · rw [List.mem_singleton.mp z]
          refine new (xs := List.replicate cs.length 0) ((s6.trans s63).upd' ne) (s6.free ((Same.upd nz1).free nz2)) (ne_of_none (Same.upd nz3 _ _ upd_same) ne) ((Same.upd ne _ _ (Same.upd nz3 _ _ upd_same)).trans ?_) (by rw [List.length_replicate]; omega)
          rw [List.length_map, Int.toNat_natCast, flatten_one, List.map_replicate]⟩
    clear hq6 s63 nz3 nz2 nz1 ne s6 se6 hRd nD
    intro Hd6 sd6 ⟨acc6, hd6, al6, hn6⟩
    -- + 1
    have hRd := hR sd6
    refine ⟨_, rfl, .inl ⟨rfl, _, SqL.of hd6⟩, _, rfl, r, rfl, ⟨_, hRd⟩, fun D nD => ?_⟩
    refine lc_all (walk_list (xs := cs.map V.int)) (fun i H' => Same Hd6 H' ∧ H' D = some (.lst (((cs.take i).map (· + 1)).map V.int))) ⟨Same.upd nD, upd_same⟩ (fun _ _ _ h => h.1.seq hRd) ?_ ?_
    · rintro i x H2' H3' hi ⟨s2, hD⟩ ⟨rfl, e⟩
      rw [List.length_map] at hi
      obtain ⟨z, hz, rfl⟩ := map_at e
      refine ⟨_, rfl, _, _, rfl, rfl, _, hD, ?_, Same.put s2 nD, ?_⟩
      · rw [List.length_map, List.length_map, List.length_take, sizeLine_eq]
        omega
      · rw [upd_same, take_more hz, List.map_append, List.map_append]
        rfl
    rintro He7 ⟨se7, hq7⟩
    rw [List.length_map, List.take_length] at hq7
    refine ⟨e, acc6, _, rfl, rfl, se7 _ _ hd6, by rw [al6]; decide, ?_⟩
    suffices hh : ∀ H', Same H4 H' → (∃ acc, H' e = some (.lst acc) ∧ acc.length = 8 ∧ ∀ x ∈ acc, Nw H H' b l e (3 * cs.length) x) → _ from hh _ (Same.put (sd6.trans se7) fe) ⟨_, upd_same, by rw [List.length_append, al6]; rfl, fun x hx => by
      rcases List.mem_append.mp hx with z | z
      · exact ((hn6 x z).same se7).put
      · rw [List.mem_singleton.mp z]
        exact (new (d := e) (sd6.trans se7) (sd6.free nD) (ne_of_none hd6 nD).symm hq7 (by rw [List.length_map]; omega)).put⟩
    intro Hd8 sd8 ⟨acc8, hd8, al8, hn8⟩
    refine ⟨_, rfl, _, rfl, b, l, _, rfl, B4.same sd8, by decide, by decide, fun H9 t9 B9 O9 t90 t91 => ?_⟩
    obtain ⟨g1, g2, g3⟩ := B4.freeO O04 fe
    obtain ⟨jj, rfl⟩ : ∃ jj : Nat, t9 = (jj : Int) := ⟨t9.toNat, by omega⟩
    have hj : jj < acc8.length := by omega
    obtain ⟨p, xs, ex, p0, pb, pl, _, hp, hl⟩ := hn8 acc8[jj] (List.getElem_mem hj)
    have hx : acc8[jj]? = some (.ref p) := by rw [List.getElem?_eq_getElem hj, ex]
    refine ⟨e, _, _, .ref p, rfl, rfl, SqL.of (O9.at g2 g3 hd8), atI_nat hx, ?_⟩
    exact k H9 p xs B9 ((O04.trans (.of sd8)).trans O9) p0 pb pl (O9.at pb pl hp) hl
end
end K3

set_option Elab.async false
set_option linter.all false
set_option maxRecDepth 100000
set_option maxHeartbeats 4000000
/-! K6L: the law -/
namespace K3
open PySem PySem.Spec PyProof.Rows L2
theorem _root_.LamX.ExtN.bx {H H' : Hp} (e : LamX.ExtN H H') {b l : Addr} (h : Bx H b l) : Bx H' b l := by
  obtain ⟨st, ns, h1, h2, h3⟩ := h
  exact ⟨st, ns, e.lst h1, e.lst h2, h3⟩
theorem sum_castR : ∀ Fs : List Form, (Fs.map fun F => (room F : Int)).sum = ((Fs.map room).sum : Nat)
  | [] => rfl
  | F :: r => by
    rw [List.map_cons, List.map_cons, List.sum_cons, List.sum_cons, sum_castR r, Int.natCast_add]
/-- no bound is more than any cut's cells -/
theorem BoundOk.le {ns cs : List Int} (B : BoundOk ns cs) : ∀ (n k : Nat), k ≤ n → k ≤ ns.length → ∀ (c : Nat) (x : Int), Cost (ns.take k) c → cs[k]? = some x → x ≤ (c : Int)
  | 0, k, hk, _, c, x, _, hx => by
    obtain rfl : k = 0 := by omega
    rw [B.zero] at hx
    have := Option.some.inj hx
    omega
  | n + 1, k, hk, hn, c, x, hc, hx => by
    by_cases k0 : k = 0
    · subst k0
      rw [B.zero] at hx
      have := Option.some.inj hx
      omega
    · have hne : ns.take k ≠ [] := fun z => by
        have := congrArg List.length z
        rw [List.length_take, List.length_nil] at this
        omega
      obtain ⟨j, q, F, d, j1, j2, j3, j4, rfl⟩ := hc.last hne
      rw [List.length_take] at j1
      have e1 : (ns.take k).take j = ns.take j := by rw [List.take_take]; congr 1; omega
      have e2 : (ns.take k).drop j = seg ns j k := by
        unfold seg
        rw [List.drop_take]
      rw [e1] at j4
      rw [e2] at j3
      obtain ⟨y, hy⟩ : ∃ y, cs[j]? = some y := ⟨_, List.getElem?_eq_getElem (by have := B.len; omega)⟩
      have a1 := BoundOk.le B n j (by omega) (by omega) d y j4 hy
      have a2 := lr_le j2 j3
      have a3 := B.gap j k y x (by omega) hn hy hx
      omega
theorem BoundOk.cells {ns cs : List Int} {m : Nat} {x : Int} (B : BoundOk ns cs) (f : Fewest ns m) (hx : cs[ns.length]? = some x) : x ≤ (m : Int) :=
  B.le ns.length ns.length (Nat.le_refl _) (Nat.le_refl _) m x (by rw [List.take_length]; exact f.is) hx
abbrev s_law : Stmt := top 61
abbrev N_law : List Str := ["_law_script", "_law_box", "_law_turn", "_law_values_here", "_law_rooms_here", "_law_cells", "_law_again", "_law_told_here", "_law_change", "_law_handed", "_law_due_here", "_law_found", "_law_form_here"]
abbrev P_law : List Str := ["_law_script"]
theorem sc_law : FnScope N_law P_law (defScope s_law) := ⟨rfl, rfl, rfl, by decide +kernel, rfl, by decide +kernel, by decide +kernel⟩
/-- the tables that the law's lambda goes through -/
def TL (Pt : Addr) : List (Addr × Str) := [(Pt, (envOfC "law" (defScope s_law) 0 0 .none).qual ++ "<lambda>")]
theorem alkT {K : PySem.W.Frag} {H : Hp} {a b : Addr} {xs ys : List V} {n : Nat} (ha : SqT K H a xs) (hb : SqT K H b ys) (hl : xs.length ≤ 10000) (p : Paired (Alk K H n) xs ys) : Alk K H (n + 1) (.ref a) (.ref b) :=
  .tup ha hb hl (Paired.length p) fun i x y hx hy => by
    obtain ⟨z, hz, R⟩ := paired_at p hx
    rw [hy] at hz
    cases hz
    exact R
/-- what the law holds in a turn -/
structure W6 (K : PySem.W.Frag) (H : Hp) (Pt b l v rp : Addr) (vs : List Int) (ps : List V) : Prop where
  bx : Bx H b l
  at_v : H v = some (.lst (vs.map V.int))
  at_r : H rp = some (.lst ps)
  tri : Paired (TriAt K H) ps (tris vs vs.length)
  tabs : LamX.Tabs (TL Pt) H
theorem W6.same {K : PySem.W.Frag} {H H' : Hp} {Pt b l v rp : Addr} {vs : List Int} {ps : List V} (h : W6 K H Pt b l v rp vs ps) (s : Same H H') : W6 K H' Pt b l v rp vs ps :=
  ⟨h.bx.same s, s _ _ h.at_v, s _ _ h.at_r, tri_keep h.tri (.of s), tabs_same h.tabs s⟩
theorem tabs_out {T : List (Addr × Str)} {H H' : Hp} {b l : Addr} (t : LamX.Tabs T H) (B : Bx H b l) (O : Out b l H H') : LamX.Tabs T H' := tabs_to t fun p o e k => by
  obtain ⟨st, ns, h1, h2, _⟩ := B
  refine O p o (fun z => ?_) (fun z => ?_) e
  · rw [z, h1] at e
    have e2 := Option.some.inj e
    rcases k with ⟨ps, z2⟩ | ⟨c, q, z2⟩
    · rw [z2] at e2
      cases e2
    · exact code_lst (z2.symm.trans e2.symm)
  · rw [z, h2] at e
    have e2 := Option.some.inj e
    rcases k with ⟨ps, z2⟩ | ⟨c, q, z2⟩
    · rw [z2] at e2
      cases e2
    · exact code_lst (z2.symm.trans e2.symm)
theorem W6.out {K : PySem.W.Frag} {H H' : Hp} {Pt b l v rp : Addr} {vs : List Int} {ps : List V} (h : W6 K H Pt b l v rp vs ps) (B : Bx H' b l) (O : Out b l H H') (vb : v ≠ b) (vl : v ≠ l) (rb : rp ≠ b) (rl : rp ≠ l) : W6 K H' Pt b l v rp vs ps :=
  ⟨B, O.at vb vl h.at_v, O.at rb rl h.at_r, tri_keep h.tri (.out h.bx O), tabs_out h.tabs h.bx O⟩
theorem W6.ext {K : PySem.W.Frag} {H H' : Hp} {Pt b l v rp : Addr} {vs : List Int} {ps : List V} (h : W6 K H Pt b l v rp vs ps) (e : LamX.ExtN H H') (t : LamX.Tabs (TL Pt) H') : W6 K H' Pt b l v rp vs ps :=
  ⟨e.bx h.bx, e.lst h.at_v, e.lst h.at_r, Paired.mapP h.tri fun _ _ ⟨p, a, q⟩ => ⟨p, a, e.seqT q⟩, t⟩
section
variable {P : Program} {w : World} {K : PySem.W.Frag} {mg : Str → Option Value} {base : Heap}
def spLawT (K : PySem.W.Frag) (Pt : Addr) : Sp := fun vs H Q _ => ∃ (a : Addr) (ns : List Int), vs = [.ref a] ∧ SqL K H a (ns.map V.int) ∧ ns.length ≤ 63 ∧ LamX.Tabs (TL Pt) H ∧ ∀ H', Q (.bl true) H'
theorem ok_law {cs : Nat → Addr} {CE Pt c : Addr} (T : Txt mg) (T4 : Txt4 mg) (KS : Kinds K mg cs CE) {f : Addr} {fd : FuncData} (D : FunD K "law" "law" (defArgs s_law) (defBody s_law) (defScope s_law) [] [] f fd) (hcode : fd.code = .ref c) (TB : LamX.TabB base mg c Pt)
    (DT : Df K mg "_law_told" s__law_told P__law_told) (G_class : Fnp P w K mg base CX0 1 "_law_class" P__law_class (spClass K cs))
    (G__law_begun : Fn P w K mg base CX0 1 "_law_begun" P__law_begun (spBegun K)) (G__law_take : Fn P w K mg base CX0 1 "_law_take" P__law_take spTake)
    (G__law_values : Fn P w K mg base CX0 2 "_law_values" P__law_values spVals) (G__law_rooms : Fn P w K mg base CX0 6 "_law_rooms" P__law_rooms (spTri K)) (G__law_due : Fn P w K mg base CX0 1 "_law_due" P__law_due (spDue K)) (G__law_bent : Fn P w K mg base CX0 2 "_law_bent" P__law_bent (spBent K))
    (G__law_alike : Fn P w K mg base CX0 5 "_law_alike" P__law_alike (spAlike K 4)) (G_room : Fn P w K mg base CX0 1 "room" P_room (spRoom K))
    (G_cut : Fn P w K mg base CX0 20 "cut" P_cut (spLforms K)) (G_prices : Fn P w K mg base CX0 20 "prices" P_prices (spLcosts K)) (G_bound : Fn P w K mg base (L2.CX P w) 20 "bound" P_bound (spBoundX K (cs 3))) : FnOk P w K mg base CX0 23 f fd P_law (spLawT K Pt) := by
  obtain ⟨gt, fdt, Ft, hmt, hbt⟩ := DT.ex
  obtain ⟨oct, odt, dVt, kVt, doct, pmt, ant, cdvt, ctt, oslt, rfl, lkt, hct, _, _⟩ := Ft.ex
  have hkt := Ft.kp
  refine okT D hcode sc_law (fun vs H Q E h => ?_) (fun A outer s H vs Q E hr h => ?_)
  · obtain ⟨a, ns, rfl, _⟩ := h
    rfl
  · obtain ⟨a, ns, rfl, hS, hl, hT, k⟩ := h
    have nd := sc_law.nd
    refine ⟨_, (pss_cons (ps_set (i := 1) nd rfl (by first | exact Or.inl rfl | exact Or.inr rfl) (pe_c G__law_begun (hr.mono (by decide)) pass0 (pa_cons (pv 0) pa_nil)))
  (pss_cons (ps_for PassesOwn.never rfl (pi_range1 (by rfl) T.b_range (pa_cons pe_int pa_nil)) (pg_name (i := 2) nd rfl (by first | exact Or.inl rfl | exact Or.inr rfl))
  (pss_cons (ps_set (i := 3) nd rfl (by first | exact Or.inl rfl | exact Or.inr rfl) (pe_c G__law_values (hr.mono (by decide)) pass0 (pa_cons (pv 1) (pa_cons (pe_ix ix_list (pe_lst (pa_cons pe_int (pa_cons pe_int pa_nil))) (pe_c G__law_take (hr.mono (by decide)) pass0 (pa_cons (pv 1) (pa_cons pe_int pa_nil))) (fun _ _ => rfl)) pa_nil))))
  (pss_cons (ps_set (i := 4) nd rfl (by first | exact Or.inl rfl | exact Or.inr rfl) (pe_c G__law_rooms (hr.mono (by decide)) pass0 (pa_cons (pv 3) pa_nil)))
  (pss_cons (ps_set (i := 5) nd rfl (by first | exact Or.inl rfl | exact Or.inr rfl) (pe_callB (cr_sum rfl) (by rfl) T4.b_sum (by decide +kernel) (pa_cons (pe_lc (own := [("_law_form_here", 12)]) (g := gName 12) (by rfl) nd  (pi_list (pe_c G_cut (hr.mono (by decide)) pass0 (pa_cons (pv 3) pa_nil))) (blkOk_by (own := [("_law_form_here", 12)]) (N := N_law) (sc := defScope s_law) (by decide +kernel)) (fun _ _ _ _ _ => pg_name (i := 12) nd rfl (Or.inl rfl)) (fun _ _ _ _ _ => pts_nil) (fun _ _ _ _ _ => (pe_c G_room (hr.mono (by decide)) pass0 (pa_cons (pv 12) pa_nil)))) pa_nil)))
  (pss_one (ps_for PassesOwn.never rfl (pi_range1 (by rfl) T.b_range (pa_cons pe_int pa_nil)) (pg_name (i := 6) nd rfl (by first | exact Or.inl rfl | exact Or.inr rfl))
  (pss_cons (ps_set (i := 7) nd rfl (by first | exact Or.inl rfl | exact Or.inr rfl) (pe_c G_prices (hr.mono (by decide)) pass0 (pa_cons (pv 3) pa_nil)))
  (pss_cons (ps_for PassesOwn.never rfl (pi_range1 (by rfl) T.b_range (pa_cons (pe_c G__law_take (hr.mono (by decide)) pass0 (pa_cons (pv 1) (pa_cons pe_int pa_nil))) pa_nil)) (pg_name (i := 8) nd rfl (by first | exact Or.inl rfl | exact Or.inr rfl))
  (pss_one (ps_set (i := 7) nd rfl (by first | exact Or.inl rfl | exact Or.inr rfl) (pe_ifExp (pt_cmpR (op_neIs hr.units) (pv 7) (pe_lst pa_nil) (nomark _)) (pe_c G__law_bent (hr.mono (by decide)) pass0 (pa_cons (pv 1) (pa_cons (pv 7) pa_nil))) (pe_lst (pa_cons pe_int pa_nil))))))
  (pss_cons (ps_set (i := 9) nd rfl (by first | exact Or.inl rfl | exact Or.inr rfl) (pe_callTy call_list_of (by rfl) T.b_list (by decide +kernel) (pa_cons (pv 7) pa_nil)))
  (pss_cons (ps_set (i := 10) nd rfl (by first | exact Or.inl rfl | exact Or.inr rfl) (pe_c G__law_due (hr.mono (by decide)) pass0 (pa_cons (pv 3) (pa_cons (pv 4) (pa_cons (pv 7) pa_nil)))))
  (pss_cons (ps_set (i := 11) nd rfl (by first | exact Or.inl rfl | exact Or.inr rfl) (pe_lamR (g := gt) (c := c) (T := TL Pt) (TT := TTd cs) (Ng := N__law_told) (k := 20) (t := fun E => tCallS (spBoundX K (cs 3)) (fun _ => E) (tCons (tVar 3) (tCons (tVar 9) tNil))) (by rfl) hmt hkt lkt hct hbt sc__law_told rfl (.inl rfl) (told_gives KS G_class) TB rfl List.mem_cons_self (fun p hp _ => by rw [List.mem_singleton.mp hp]; rfl) hr (LamX.lamS_by (show LamX.lamSB (defScope s_law) _ = true by decide +kernel)) rfl (fun _ _ _ _ _ => rfl) (fun A outer s H E f c' hr2 => pe_cS (E := fun _ => E) G_bound hr2 (fun σ => passAt (takes_of rfl rfl rfl rfl) σ) (pa_cons (pv 3) (pa_cons (pv 9) pa_nil)))))
  (pss_cons (ps_if (PW.pt (pw_or (pt_not (pt_val (pe_c G__law_alike (hr.mono (by decide)) pass0 (pa_cons (pv 11) (pa_cons (pv 10) pa_nil))))) (pw_or1 (pt_cmpR (op_neIs hr.units) (pv 9) (pv 7) (nomark _)))))
  (pss_one (ps_ret pe_bl))
  pss_nil)
  (pss_one (ps_if (PW.pt (pw_and (pt_val (pe_callB call_isi (by rfl) T.b_isinstance (by decide +kernel) (pa_cons (pv 11) (pa_cons (pe_bltn (v := .ty "int") (by rfl) T.b_int (by decide +kernel) rfl) pa_nil)))) (pw_and1 (pt_cmpR op_gt (pv 11) (pv 5) (nomark _)))))
  (pss_one (ps_ret pe_bl))
  pss_nil))))))))))))))
  (pss_one (ps_ret pe_bl)))), ?_⟩
    refine ⟨_, rfl, a, ns, rfl, hS, hl, fun H1 b l s1 B1 => ?_⟩
    refine ⟨_, rfl, by decide, by decide, for_it (walk_range (lo := 0)) (fun i σ H' => (∃ v2 v3 v4 v5 v6 v7 v8 v9 v10 v11 v12, σ = [some (.ref a), some (.ref b), v2, v3, v4, v5, v6, v7, v8, v9, v10, v11, v12]) ∧ Bx H' b l ∧ LamX.Tabs (TL Pt) H') ⟨⟨none, none, none, none, none, none, none, none, none, none, none, rfl⟩, B1, tabs_same hT s1⟩ (fun _ _ _ _ _ => True.intro) ?_ ?_⟩
    · rintro i x σ H2 H2' hi ⟨⟨v2, v3, v4, v5, v6, v7, v8, v9, v10, v11, v12, rfl⟩, B2, T2⟩ ⟨rfl, rfl⟩
      refine ⟨_, rfl, (by show 2 ≤ sizeLine; decide), fun q nq => ?_⟩
      have sq := Same.upd (H := H2') (o := .lst ([16, 32].map V.int)) nq
      refine ⟨_, rfl, b, l, 2, rfl, B2.same sq, by decide, by decide, fun H3 t B3 O3 t0 t1 => ?_⟩
      obtain ⟨y, hy, ya⟩ := pickI (zs := [16, 32]) t0 t1
      have y32 : 1 ≤ y ∧ y ≤ 32 := by
        simp only [List.mem_cons, List.not_mem_nil, or_false] at hy
        omega
      refine ⟨q, _, t, _, rfl, rfl, SqL.of (O3.at (B2.free nq).1 (B2.free nq).2 upd_same), ya, ?_⟩
      refine ⟨b, l, y, rfl, B3, y32.1, y32.2, fun H4 v vs B4 O4 nv vb vl hv vne vfew vin => ?_⟩
      have few : vs.length ≤ 32 := by omega
      have G : Good vs := ⟨vne, few, vin⟩
      have T4' := tabs_out (tabs_out (tabs_same T2 sq) (B2.same sq) O3) B3 O4
      refine ⟨_, rfl, v, vs, rfl, SqL.of hv, G, fun H5 rp ps s5 nrp hrp prt => ?_⟩
      obtain ⟨rb, rl⟩ := B4.free nrp
      have w5 : W6 K H5 Pt b l v rp vs ps := ⟨B4.same s5, s5 _ _ hv, hrp, prt, tabs_same T4' s5⟩
      -- the cut's cells
      refine ⟨_, rfl, v, vs, rfl, SqL.of w5.at_v, G, fun H6 pf fs s6 npf hpf prd => ?_⟩
      have flen := Paired.length prd
      obtain ⟨c1, c2, c3⟩ := cut_fewest G
      refine ⟨pf, rfl, ⟨_, SqL.of hpf⟩, fun D0 nD => ?_⟩
      refine lc_all (walk_list (xs := fs)) (fun i H' => Same H6 H' ∧ H' D0 = some (.lst ((((cutForms vs).take i).map fun F => (K3.room F : Int)).map V.int))) ⟨Same.upd nD, upd_same⟩ (fun _ _ _ h => SqL.of (h.1 _ _ hpf)) ?_ ?_
      · rintro i x H3 H3' hi ⟨s3, hD⟩ ⟨rfl, e⟩
        obtain ⟨F, hF, q, rfl, hq, ok⟩ := paired_at prd e
        refine ⟨_, rfl, q, F, rfl, hq.same s3, _, hD, ?_, Same.put s3 nD, ?_⟩
        · rw [List.length_map, List.length_map, List.length_take, sizeLine_eq]
          omega
        · rw [upd_same, take_more hF, List.map_append, List.map_append]
          rfl
      rintro H7 ⟨s7, hD⟩
      rw [flen, List.take_length] at hD
      refine ⟨D0, _, rfl, SqL.of hD, ?_⟩
      rw [sum_castR]
      generalize hm : ((cutForms vs).map K3.room).sum = m at c3
      have w7 := w5.same (s6.trans s7)
      clear hD s7 s6 prd hpf hm
      refine ⟨_, rfl, by decide, by decide, for_it (walk_range (lo := 0)) (fun j σ H' => (∃ v6 v7 v8 v9 v10 v11 v12, σ = [some (.ref a), some (.ref b), some (.int (0 + (i : Int))), some (.ref v), some (.ref rp), some (.int (m : Int)), v6, v7, v8, v9, v10, v11, v12]) ∧ W6 K H' Pt b l v rp vs ps) ⟨⟨v6, v7, v8, v9, v10, v11, v12, rfl⟩, w7⟩ (fun _ _ _ _ _ => True.intro) ?_ ?_⟩
      · rintro j x σ H8 H8' hj ⟨⟨v6, v7, v8, v9, v10, v11, v12, rfl⟩, w8⟩ ⟨rfl, rfl⟩
        refine ⟨_, rfl, v, vs, rfl, SqL.of w8.at_v, G, fun H9 pc cs0 s9 npc hpc prs => ?_⟩
        obtain ⟨pb0, pl0⟩ := w8.bx.free npc
        have w9 := w8.same s9
        refine ⟨_, rfl, b, l, 3, rfl, w9.bx, by decide, by decide, fun H10 n B10 O10 n0 n1 => ⟨_, rfl, by omega, by omega, ?_⟩⟩
        have w10 := w9.out B10 O10 vb vl rb rl
        have hp10 := O10.at pb0 pl0 hpc
        have c0 := prs.1
        refine for_it (walk_range (lo := 0)) (fun i2 σ H' => (∃ v8 v9 v10 v11 v12, ∃ p, ∃ xs : List Int, σ = [some (.ref a), some (.ref b), some (.int (0 + (i : Int))), some (.ref v), some (.ref rp), some (.int (m : Int)), some (.int (0 + (j : Int))), some (.ref p), v8, v9, v10, v11, v12] ∧ p ≠ b ∧ p ≠ l ∧ H' p = some (.lst (xs.map V.int)) ∧ xs.length ≤ 33 * 3 ^ i2) ∧ W6 K H' Pt b l v rp vs ps) ⟨⟨v8, v9, v10, v11, v12, pc, cs0, rfl, pb0, pl0, hp10, by omega⟩, w10⟩ (fun _ _ _ _ _ => True.intro) ?_ ?_
        · rintro i2 x σ H11 H11' hi2 ⟨⟨v8, v9, v10, v11, v12, p, xs, rfl, pb, pl, hp, xl⟩, w11⟩ ⟨rfl, rfl⟩
          have hi2' : i2 < 2 := by omega
          have x100 : xs.length ≤ 100 := by
            match i2, hi2' with
            | 0, _ => omega
            | 1, _ => omega
          refine ⟨_, rfl, Nat.zero_le _, fun e ne => ?_⟩
          have se := Same.upd (H := H11') (o := .lst []) ne
          refine ⟨p, e, xs, [], rfl, rfl, SqL.of (se _ _ hp), SqL.of upd_same, _, rfl, ?_⟩
          have w12 := w11.same se
          have hp12 := se _ _ hp
          refine ite2 (fun cc => ?_) (fun cc => ?_)
          · have xne : xs ≠ [] := fun z => by
              have cc' : (!decide (xs = [])) = true := cc
              rw [decide_eq_true z] at cc'
              cases cc'
            refine ⟨_, rfl, _, rfl, b, l, p, xs, rfl, w12.bx, hp12, pb, pl, xne, x100, fun H13 p' ys B13 O13 np' pb' pl' hp' hl' => ?_⟩
            exact ⟨⟨_, _, _, _, _, p', ys, rfl, pb', pl', hp', by rw [Nat.pow_succ]; omega⟩, w12.out B13 O13 vb vl rb rl⟩
          · refine ⟨(by show 1 ≤ sizeLine; decide), fun p' np' => ?_⟩
            have sp' := Same.upd (o := .lst [V.int 0]) np'
            obtain ⟨pb', pl'⟩ := w12.bx.free np'
            exact ⟨⟨_, _, _, _, _, p', [0], rfl, pb', pl', upd_same, by
              show 1 ≤ 33 * 3 ^ (i2 + 1)
              have : 0 < 3 ^ (i2 + 1) := Nat.pow_pos (by decide)
              omega⟩, w12.same sp'⟩
        · rintro σ H11 ⟨⟨v8, v9, v10, v11, v12, p, xs, rfl, pb, pl, hp, xl⟩, w11⟩
          have x300 : xs.length ≤ 300 := by
            have hn2 : n.toNat ≤ 2 := by omega
            have : 3 ^ n.toNat ≤ 3 ^ 2 := Nat.pow_le_pow_right (by decide) hn2
            omega
          refine ⟨_, rfl, p, _, rfl, .inl (SqL.of hp), fun hd nhd => ?_⟩
          have s12 := Same.upd (H := H11) (o := .lst (xs.map V.int)) nhd
          have w12 := w11.same s12
          have hp12 := s12 _ _ hp
          have hh12 : (upd H11 hd (.lst (xs.map V.int))) hd = some (.lst (xs.map V.int)) := upd_same
          suffices hhh : ∀ H', W6 K H' Pt b l v rp vs ps → H' p = some (.lst (xs.map V.int)) → H' hd = some (.lst (xs.map V.int)) → _ from hhh _ w12 hp12 hh12
          clear hh12 hp12 w12 s12
          intro H12 w12 hp12 hh12
          by_cases BB : BoundOk vs xs
          · refine ⟨_, rfl, _, rfl, _, rfl, v, rp, p, vs, xs, ps, rfl, SqL.of w12.at_v, SqL.of w12.at_r, w12.tri, SqL.of hp12, G, by omega, fun _ H13 c s13 hc => ?_, fun nB => absurd BB nB⟩
            have w13 := w12.same s13
            refine ⟨w13.tabs, fun H14 eN T14 E hE => ⟨_, rfl, _, rfl, v, hd, vs, xs, rfl, SqL.of (eN.lst w13.at_v), SqL.of (eN.lst (s13 _ _ hh12)), G, by omega, fun _ H15 c' s15 hc' => ?_, fun nB => absurd BB nB⟩⟩
            obtain rfl : c = c' := Option.some.inj (hc.symm.trans hc')
            have w15 := (w13.ext eN T14).same s15
            have hp15 := s15 _ _ (eN.lst (s13 _ _ hp12))
            have hh15 := s15 _ _ (eN.lst (s13 _ _ hh12))
            have cle := BB.cells c3 hc
            refine ⟨_, rfl, _, rfl, .int c, .int c, rfl, 0, by decide, .int c, _, rfl, ?_⟩
            refine ite2 (fun cc => Bool.noConfusion (show false = true from cc)) (fun _ => ?_)
            refine ⟨_, rfl, _, rfl, hd, p, xs, xs, rfl, rfl, SqL.of hh15, SqL.of hp15, _, rfl, ?_⟩
            rw [decide_eq_true (rfl : xs = xs)]
            refine ite2 (fun cc => Bool.noConfusion (show false = true from cc)) (fun _ => ?_)
            refine ⟨_, rfl, _, .ty "int", .type "int", .type "int", true, rfl, .ty _, .base (.int _), kit_ty (by decide +kernel), _, rfl, ite2 (fun _ => ?_) (fun cc => absurd rfl cc)⟩
            refine ⟨_, rfl, _, rfl, _, _, rfl, rfl, _, rfl, ?_⟩
            refine ite2 (fun cc => absurd (of_decide_eq_true cc) (by omega)) (fun _ => ?_)
            exact ⟨⟨_, _, _, _, _, _, _, rfl⟩, w15⟩
          · refine ⟨_, rfl, _, rfl, _, rfl, v, rp, p, vs, xs, ps, rfl, SqL.of w12.at_v, SqL.of w12.at_r, w12.tri, SqL.of hp12, G, by omega, fun B => absurd B BB, fun _ H13 t1 s13 ht1 => ?_⟩
            have w13 := w12.same s13
            refine ⟨w13.tabs, fun H14 eN T14 E hE => ⟨_, rfl, _, rfl, v, hd, vs, xs, rfl, SqL.of (eN.lst w13.at_v), SqL.of (eN.lst (s13 _ _ hh12)), G, by omega, fun B => absurd B BB, fun _ H15 s15 => hE _ _ _ ⟨3, 0, by decide, rfl, .inl ⟨by decide, by decide, by decide, rfl, rfl⟩, fun H16 t2 s16 nt2 ht2 => ?_⟩⟩⟩
            have s156 := s15.trans s16
            have w15 := (w13.ext eN T14).same s156
            have hp15 := s156 _ _ (eN.lst (s13 _ _ hp12))
            have hh15 := s156 _ _ (eN.lst (s13 _ _ hh12))
            have ht1' := s156 _ _ (eN _ _ ht1 fun _ z => by cases z)
            refine ⟨_, rfl, _, rfl, .ref t2, .ref t1, rfl, 1, by decide, alkT (n := 0) (SqT.of ht2) (SqT.of ht1') (by show 2 ≤ 10000; decide) (.cons (.str _) (.cons (.int _) .nil)), _, rfl, ?_⟩
            refine ite2 (fun cc => Bool.noConfusion (show false = true from cc)) (fun _ => ?_)
            refine ⟨_, rfl, _, rfl, hd, p, xs, xs, rfl, rfl, SqL.of hh15, SqL.of hp15, _, rfl, ?_⟩
            rw [decide_eq_true (rfl : xs = xs)]
            refine ite2 (fun cc => Bool.noConfusion (show false = true from cc)) (fun _ => ?_)
            refine ⟨_, rfl, _, .ty "int", .type "tuple", .type "int", false, rfl, .ty _, tyX_seqT (SqT.of ht2), kit_ty (by decide +kernel), _, rfl, ite2 (fun cc => Bool.noConfusion (show false = true from cc)) (fun _ => ?_)⟩
            exact ⟨⟨_, _, _, _, _, _, _, rfl⟩, w15⟩
      · rintro σ H8 ⟨⟨v6, v7, v8, v9, v10, v11, v12, rfl⟩, w8⟩
        exact ⟨⟨_, _, _, _, _, _, _, _, _, _, _, rfl⟩, w8.bx, w8.tabs⟩
    · rintro σ H2 ⟨⟨v2, v3, v4, v5, v6, v7, v8, v9, v10, v11, v12, rfl⟩, B2, T2⟩
      exact k _
end
end K3

set_option Elab.async false
set_option linter.all false
set_option maxRecDepth 100000
set_option maxHeartbeats 0
namespace K3
open PySem PySem.Spec PyProof.Rows L2
def mkD (x : Str) (st : Stmt) : He.DefD := ⟨(x, none), x, x, defArgs st, defBody st, defScope st, [], []⟩
def fnL : List He.DefD := [mkD "per_cell" s_per_cell, mkD "packed" s_packed, mkD "check_below" s_check_below, mkD "cell_of" s_cell_of, mkD "check_values" s_check_values, mkD "make_plain" s_make_plain, mkD "make_one" s_make_one, mkD "make_codes" s_make_codes, mkD "make_near" s_make_near, mkD "make_steps" s_make_steps, mkD "packed_from" s_packed_from, mkD "least_form" s_least_form, mkD "room" s_room, mkD "cut" s_cut, mkD "best_ends" s_best_ends, mkD "prices" s_prices, mkD "bound" s_bound, mkD "rooms_from" s_rooms_from, mkD "fewest_cells" s_fewest_cells, mkD "packed_cells" s_packed_cells, mkD "_law_begun" s__law_begun, mkD "_law_take" s__law_take, mkD "_law_alike" s__law_alike, mkD "_law_class" s__law_class, mkD "_law_told" s__law_told, mkD "_law_per" s__law_per, mkD "_law_packed" s__law_packed, mkD "_law_above" s__law_above, mkD "_law_form" s__law_form, mkD "_law_room" s__law_room, mkD "_law_least" s__law_least, mkD "_law_values" s__law_values, mkD "_law_rooms" s__law_rooms, mkD "_law_due" s__law_due, mkD "_law_bent" s__law_bent, mkD "law" s_law]
def faL : List He.Fa := [.glo "per_cell", .glo "packed", .glo "check_below", .glo "cell_of", .glo "check_values", .glo "make_plain", .glo "make_one", .glo "make_codes", .glo "make_near", .glo "make_steps", .glo "packed_from", .glo "least_form", .glo "room", .glo "cut", .glo "best_ends", .glo "prices", .glo "bound", .glo "rooms_from", .glo "fewest_cells", .glo "packed_cells", .glo "_law_begun", .glo "_law_take", .glo "_law_alike", .glo "_law_class", .glo "_law_told", .glo "_law_per", .glo "_law_packed", .glo "_law_above", .glo "_law_form", .glo "_law_room", .glo "_law_least", .glo "_law_values", .glo "_law_rooms", .glo "_law_due", .glo "_law_bent", .glo "law", .glo "MAKERS", .glo "BadNumber", .glo "BadValues", .glo "NoForm", .glo "BadPrices", .glo "BadKinds", .glo "BadRows", .glo "BadCondition", .glo "BadColumn", .glo "BadHeap", .glo "TooMany", .glo "BadBlock", .glo "Stopped", .glo "BadText", .glo "ColumnError", .int "LEAST_BASE" 2, .int "CELL_SIZE" 10000, .int "MOST_VALUES" 32, .int "MOST" 9999, .int "FURTHEST" 19998, .free "len", .free "tuple", .free "list", .free "int", .free "range", .free "enumerate", .free "reversed", .free "min", .free "max", .free "set", .free "sorted", .free "isinstance", .free "sum", .free "bool", .free "str", .free "ValueError", .exc "BadNumber", .exc "BadPrices"]
def tabL : List He.Tab := [(fun K => He.ga K "MAKERS", [("plain" : Str), ("one" : Str), ("codes" : Str), ("near" : Str), ("steps" : Str)])]
def tfL : List He.Defn := [("law", none)]
def tab0 : List (Str × He.Dv) := [("plain", .glo "make_plain"), ("one", .glo "make_one"), ("codes", .glo "make_codes"), ("near", .glo "make_near"), ("steps", .glo "make_steps")]
def exL (K : PySem.W.Frag) : Bool := He.valsB K (He.ga K "MAKERS") tab0 && (kindsB K (fun i => He.ga K (cnm i)) (He.ga K "ColumnError"))
abbrev R : PySem.W.OpenRow := PySem.W.OpenLaw.row PySem.Challenge.rw_codecolumns_k06_prices_judged
abbrev hk : PySem.W.Hook := He.hookX 4 faL fnL tabL tfL exL
def ob (s : PySem.W.SharedT) : He.AlX := He.obsX 4 faL fnL tabL tfL exL (HandSHeadRun.getT s)
theorem ob_eq (s : PySem.W.SharedT) : ob s = hk.obs s.abs := He.obsX_eq (HandSHeadRun.getT_eq s)
def looseL : List Str := [("per_cell" : Str), ("packed" : Str), ("check_below" : Str), ("cell_of" : Str), ("check_values" : Str), ("make_plain" : Str), ("make_one" : Str), ("make_codes" : Str), ("make_near" : Str), ("make_steps" : Str), ("packed_from" : Str), ("least_form" : Str), ("room" : Str), ("cut" : Str), ("best_ends" : Str), ("prices" : Str), ("bound" : Str), ("rooms_from" : Str), ("fewest_cells" : Str), ("packed_cells" : Str), ("_law_begun" : Str), ("_law_take" : Str), ("_law_alike" : Str), ("_law_class" : Str), ("_law_told" : Str), ("_law_all" : Str), ("_law_per" : Str), ("_law_packed" : Str), ("_law_above" : Str), ("_law_form" : Str), ("_law_room" : Str), ("_law_least" : Str), ("_law_values" : Str), ("_law_rooms" : Str), ("_law_due" : Str), ("_law_bent" : Str), ("ColumnError" : Str), ("BadNumber" : Str), ("BadValues" : Str), ("NoForm" : Str), ("BadPrices" : Str), ("BadKinds" : Str), ("BadRows" : Str), ("BadCondition" : Str), ("BadColumn" : Str), ("BadHeap" : Str), ("TooMany" : Str), ("BadBlock" : Str), ("Stopped" : Str), ("BadText" : Str), ("LEAST_BASE" : Str), ("CELL_SIZE" : Str), ("MOST_VALUES" : Str), ("MOST" : Str), ("MAKERS" : Str), ("FURTHEST" : Str)]
theorem run_f (w : World) : HandSHeadRun.RunEq R (PySem.W.view R.prog [61]) hk ob 9000 looseL (w.withFollow "special-get-raises" false) := by
  intro os
  kernel_rfl
theorem run_t (w : World) : HandSHeadRun.RunEq R (PySem.W.view R.prog [61]) hk ob 9000 looseL (w.withFollow "special-get-raises" true) := by
  intro os
  kernel_rfl
theorem run (w : World) : HandSHeadRun.RunEq R (PySem.W.view R.prog [61]) hk ob 9000 looseL w := PySem.W.byRow2 "special-get-raises" (P := fun w => HandSHeadRun.RunEq R (PySem.W.view R.prog [61]) hk ob 9000 looseL w) run_f run_t w
end K3

set_option Elab.async false
set_option linter.all false
set_option maxRecDepth 100000
set_option maxHeartbeats 0
namespace K3
open PySem PySem.Spec PyProof.Rows L2
/-! ### what the hook tells -/
theorem kkeys_of {K : PySem.W.Frag} {w : World} {a : Addr} {ks : List Str} (h : He.dicW K a = some (He.keysIn w.params ks)) : KKeys K w a ks := by
  obtain ⟨es, n, D⟩ := He.dicW_ok h
  refine ⟨es, n, D, ?_⟩
  unfold He.dicW at h
  rw [D.at_] at h
  have h1 : (match decide (("dict" : String) = "dict") && ((#[] : Array (Option Value)).isEmpty && !(a == sysModules)) with
    | true => some (es.toList.map He.keyOf)
    | false => none) = some (He.keysIn w.params ks) := h
  rw [D.low] at h1
  exact Option.some.inj h1
theorem tab_keys {w : World} {K : PySem.W.Frag} {fa : List He.Fa} {fn : List He.DefD} {ts : List He.Tab} (c : He.SaysT fa fn ts w K) (i : Nat) {t : He.Tab} (h : ts[i]? = some t := by rfl) : KKeys K w (t.1 K) t.2 := by
  have e : ts.map (fun t => He.dicW K (t.1 K)) = ts.map fun t => some (He.keysIn w.params t.2) := congrArg (fun z : He.AlT => z.2) c
  have e2 : (ts.map fun t => He.dicW K (t.1 K))[i]? = (ts.map fun t => some (He.keysIn w.params t.2))[i]? := by rw [e]
  rw [List.getElem?_map, List.getElem?_map, h] at e2
  exact kkeys_of (Option.some.inj e2)
theorem kdct_of {K : PySem.W.Frag} {w : World} {d : Addr} {ks : List Str} {kvs : List (Str × He.Dv)} (k : KKeys K w d ks) (h : He.valsB K d kvs = true) {x y : Str} (m : (x, He.Dv.glo y) ∈ kvs) : KDct K w d x (.ref (He.ga K y)) := by
  obtain ⟨es, n, D, _⟩ := k.ex
  obtain ⟨u, e, r⟩ := He.valsB_ok h m
  exact ⟨es, n, u, D.at_, D.lit, e, r⟩
theorem held_of {P : Program} {w : World} {K : PySem.W.Frag} {mg : Str → Option Value} {base : Heap} {k j : Nat} {x : Str} {ps : List Str} {sp : Sp} {a : Addr} (F : Fn P w K mg base CX0 k x ps sp) (hm : mg x = some (.ref a)) (hk : k ≤ j) : Held P w K mg base j a sp := by
  obtain ⟨f, fd, G, g, kp, b⟩ := F.ex
  obtain rfl : f = a := Value.ref.inj (Option.some.inj (g.symm.trans hm))
  exact ⟨fd, ps, G.mono hk, kp, b⟩
section
variable {P : Program} {w : World} {K : PySem.W.Frag} {h : Heap} {mg : Str → Option Value}
theorem df_of (X : K.In h) (G : h.Ns mainGlobals mg) (c : He.SaysD faL fnL K) (i j : Nat) {x : Str} {st : Stmt} {ps : List Str} (hd : fnL[i]? = some (mkD x st)) (hg : faL[j]? = some (.glo x))
    (hb : ∀ (kV doc pm : Value) (an : Option Addr) (cdv ct : Value) (us : List Value), us.length = ps.length → bindArgs (PySem.W.fnOf x x (defArgs st) (defBody st) (defScope st) .none kV doc pm an cdv ct) ⟨us, []⟩ = pure (ps.zip us)) : Df K mg x st ps := by
  obtain ⟨fd, F⟩ := c.def_ i hd
  exact ⟨_, fd, F, He.glo_ok X G (c.fact j hg), FunD.bindsN F hb⟩
theorem txt_of (X : K.In h) (G : h.Ns mainGlobals mg) (c : He.SaysD faL fnL K) : Txt mg where
  c_LEAST_BASE := He.int_ok X G (c.fact 51 rfl)
  c_CELL_SIZE := He.int_ok X G (c.fact 52 rfl)
  c_MOST_VALUES := He.int_ok X G (c.fact 53 rfl)
  c_MOST := He.int_ok X G (c.fact 54 rfl)
  b_len := He.free_ok X G (c.fact 56 rfl)
  b_tuple := He.free_ok X G (c.fact 57 rfl)
  b_list := He.free_ok X G (c.fact 58 rfl)
  b_int := He.free_ok X G (c.fact 59 rfl)
  b_range := He.free_ok X G (c.fact 60 rfl)
  b_enumerate := He.free_ok X G (c.fact 61 rfl)
  b_reversed := He.free_ok X G (c.fact 62 rfl)
  b_min := He.free_ok X G (c.fact 63 rfl)
  b_max := He.free_ok X G (c.fact 64 rfl)
  b_set := He.free_ok X G (c.fact 65 rfl)
  b_sorted := He.free_ok X G (c.fact 66 rfl)
  b_isinstance := He.free_ok X G (c.fact 67 rfl)
theorem law_facts {f : Addr} (X : K.In h) (G : h.Ns mainGlobals mg) (hfa : mg ("law" : Str) = some (.ref f)) (cx : He.SaysX faL fnL tabL tfL exL w h K) :
    ∃ fd : FuncData, (∀ (s : Shared) (v : Value), BindsTo s fd ⟨[v], []⟩ [("_law_script", v)]) ∧ ∀ base : Heap, K.In base → base.Ns mainGlobals mg → LamX.TabB base mg (He.cT K ("law", none)).1 (He.cT K ("law", none)).2 → FnOk P w K mg base CX0 23 f fd ["_law_script"] (spLawT K (He.cT K ("law", none)).2) := by
  have c := cx.t.d
  obtain ⟨fd, F⟩ := c.def_ 35 (d := mkD "law" s_law) rfl
  have e := hfa.symm.trans (He.glo_ok X G (c.fact 35 (f := .glo "law") rfl))
  cases e
  have hcode_law : fd.code = .ref (He.cT K ("law", none)).1 := by
    obtain ⟨oc, od, dV, kV, doc, pm, an, cdv, ct, osl, rfl, lk, hcd, _, _⟩ := F.ex
    obtain ⟨cc, ec⟩ := He.codeIn_ref hcd
    have e2 := He.codeOf_eq (p := ("law", none)) lk ec
    show cdv = _
    rw [ec, ← e2]
    rfl
  have b := FunD.bindsA (ps := ["_law_script"]) F fun _ _ _ _ _ _ us hl => match us, hl with | [_], _ => rfl
  refine ⟨fd, fun s v => b s [v] rfl, fun base _ _ TB_law => ?_⟩
  have T := txt_of X G c
  have D_per_cell : Df K mg "per_cell" s_per_cell P_per_cell := df_of X G c 0 0 rfl rfl fun _ _ _ _ _ _ us hl => match us, hl with | [_], _ => rfl
  have D_packed : Df K mg "packed" s_packed P_packed := df_of X G c 1 1 rfl rfl fun _ _ _ _ _ _ us hl => match us, hl with | [_, _], _ => rfl
  have D_check_below : Df K mg "check_below" s_check_below P_check_below := df_of X G c 2 2 rfl rfl fun _ _ _ _ _ _ us hl => match us, hl with | [_, _], _ => rfl
  have D_cell_of : Df K mg "cell_of" s_cell_of P_cell_of := df_of X G c 3 3 rfl rfl fun _ _ _ _ _ _ us hl => match us, hl with | [_, _], _ => rfl
  have D_check_values : Df K mg "check_values" s_check_values P_check_values := df_of X G c 4 4 rfl rfl fun _ _ _ _ _ _ us hl => match us, hl with | [_], _ => rfl
  have D_make_plain : Df K mg "make_plain" s_make_plain P_make_plain := df_of X G c 5 5 rfl rfl fun _ _ _ _ _ _ us hl => match us, hl with | [_], _ => rfl
  have D_make_one : Df K mg "make_one" s_make_one P_make_one := df_of X G c 6 6 rfl rfl fun _ _ _ _ _ _ us hl => match us, hl with | [_], _ => rfl
  have D_make_codes : Df K mg "make_codes" s_make_codes P_make_codes := df_of X G c 7 7 rfl rfl fun _ _ _ _ _ _ us hl => match us, hl with | [_], _ => rfl
  have D_make_near : Df K mg "make_near" s_make_near P_make_near := df_of X G c 8 8 rfl rfl fun _ _ _ _ _ _ us hl => match us, hl with | [_], _ => rfl
  have D_make_steps : Df K mg "make_steps" s_make_steps P_make_steps := df_of X G c 9 9 rfl rfl fun _ _ _ _ _ _ us hl => match us, hl with | [_], _ => rfl
  have D_packed_from : Df K mg "packed_from" s_packed_from P_packed_from := df_of X G c 10 10 rfl rfl fun _ _ _ _ _ _ us hl => match us, hl with | [_, _, _], _ => rfl
  have D_least_form : Df K mg "least_form" s_least_form P_least_form := df_of X G c 11 11 rfl rfl fun _ _ _ _ _ _ us hl => match us, hl with | [_], _ => rfl
  have D_room : Df K mg "room" s_room P_room := df_of X G c 12 12 rfl rfl fun _ _ _ _ _ _ us hl => match us, hl with | [_], _ => rfl
  have D_cut : Df K mg "cut" s_cut P_cut := df_of X G c 13 13 rfl rfl fun _ _ _ _ _ _ us hl => match us, hl with | [_], _ => rfl
  have D_best_ends : Df K mg "best_ends" s_best_ends P_best_ends := df_of X G c 14 14 rfl rfl fun _ _ _ _ _ _ us hl => match us, hl with | [_], _ => rfl
  have D_prices : Df K mg "prices" s_prices P_prices := df_of X G c 15 15 rfl rfl fun _ _ _ _ _ _ us hl => match us, hl with | [_], _ => rfl
  have D_bound : Df K mg "bound" s_bound P_bound := df_of X G c 16 16 rfl rfl fun _ _ _ _ _ _ us hl => match us, hl with | [_, _], _ => rfl
  have D_rooms_from : Df K mg "rooms_from" s_rooms_from P_rooms_from := df_of X G c 17 17 rfl rfl fun _ _ _ _ _ _ us hl => match us, hl with | [_, _], _ => rfl
  have D_fewest_cells : Df K mg "fewest_cells" s_fewest_cells P_fewest_cells := df_of X G c 18 18 rfl rfl fun _ _ _ _ _ _ us hl => match us, hl with | [_, _, _, _], _ => rfl
  have D_packed_cells : Df K mg "packed_cells" s_packed_cells P_packed_cells := df_of X G c 19 19 rfl rfl fun _ _ _ _ _ _ us hl => match us, hl with | [_, _], _ => rfl
  have D__law_begun : Df K mg "_law_begun" s__law_begun P__law_begun := df_of X G c 20 20 rfl rfl fun _ _ _ _ _ _ us hl => match us, hl with | [_], _ => rfl
  have D__law_take : Df K mg "_law_take" s__law_take P__law_take := df_of X G c 21 21 rfl rfl fun _ _ _ _ _ _ us hl => match us, hl with | [_, _], _ => rfl
  have D__law_alike : Df K mg "_law_alike" s__law_alike P__law_alike := df_of X G c 22 22 rfl rfl fun _ _ _ _ _ _ us hl => match us, hl with | [_, _], _ => rfl
  have D__law_class : Df K mg "_law_class" s__law_class P__law_class := df_of X G c 23 23 rfl rfl fun _ _ _ _ _ _ us hl => match us, hl with | [_], _ => rfl
  have D__law_told : Df K mg "_law_told" s__law_told P__law_told := df_of X G c 24 24 rfl rfl fun _ _ _ _ _ _ us hl => match us, hl with | [_], _ => rfl
  have D__law_per : Df K mg "_law_per" s__law_per P__law_per := df_of X G c 25 25 rfl rfl fun _ _ _ _ _ _ us hl => match us, hl with | [_], _ => rfl
  have D__law_packed : Df K mg "_law_packed" s__law_packed P__law_packed := df_of X G c 26 26 rfl rfl fun _ _ _ _ _ _ us hl => match us, hl with | [_, _], _ => rfl
  have D__law_above : Df K mg "_law_above" s__law_above P__law_above := df_of X G c 27 27 rfl rfl fun _ _ _ _ _ _ us hl => match us, hl with | [_], _ => rfl
  have D__law_form : Df K mg "_law_form" s__law_form P__law_form := df_of X G c 28 28 rfl rfl fun _ _ _ _ _ _ us hl => match us, hl with | [_, _], _ => rfl
  have D__law_room : Df K mg "_law_room" s__law_room P__law_room := df_of X G c 29 29 rfl rfl fun _ _ _ _ _ _ us hl => match us, hl with | [_], _ => rfl
  have D__law_least : Df K mg "_law_least" s__law_least P__law_least := df_of X G c 30 30 rfl rfl fun _ _ _ _ _ _ us hl => match us, hl with | [_], _ => rfl
  have D__law_values : Df K mg "_law_values" s__law_values P__law_values := df_of X G c 31 31 rfl rfl fun _ _ _ _ _ _ us hl => match us, hl with | [_, _], _ => rfl
  have D__law_rooms : Df K mg "_law_rooms" s__law_rooms P__law_rooms := df_of X G c 32 32 rfl rfl fun _ _ _ _ _ _ us hl => match us, hl with | [_], _ => rfl
  have D__law_due : Df K mg "_law_due" s__law_due P__law_due := df_of X G c 33 33 rfl rfl fun _ _ _ _ _ _ us hl => match us, hl with | [_, _, _], _ => rfl
  have D__law_bent : Df K mg "_law_bent" s__law_bent P__law_bent := df_of X G c 34 34 rfl rfl fun _ _ _ _ _ _ us hl => match us, hl with | [_, _], _ => rfl
  have K_MAKERS := tab_keys cx.t 0 rfl
  have hex := cx.more
  obtain ⟨hex0, hex⟩ := Bool.and_eq_true_iff.mp hex
  have KS : Kinds K mg (fun i => He.ga K (cnm i)) (He.ga K "ColumnError") := kinds_of hex (fun i hi => by
    match i, hi with
    | 0, _ => exact He.glo_ok X G (c.fact 37 (f := .glo "BadNumber") rfl)
    | 1, _ => exact He.glo_ok X G (c.fact 38 (f := .glo "BadValues") rfl)
    | 2, _ => exact He.glo_ok X G (c.fact 39 (f := .glo "NoForm") rfl)
    | 3, _ => exact He.glo_ok X G (c.fact 40 (f := .glo "BadPrices") rfl)
    | 4, _ => exact He.glo_ok X G (c.fact 41 (f := .glo "BadKinds") rfl)
    | 5, _ => exact He.glo_ok X G (c.fact 42 (f := .glo "BadRows") rfl)
    | 6, _ => exact He.glo_ok X G (c.fact 43 (f := .glo "BadCondition") rfl)
    | 7, _ => exact He.glo_ok X G (c.fact 44 (f := .glo "BadColumn") rfl)
    | 8, _ => exact He.glo_ok X G (c.fact 45 (f := .glo "BadHeap") rfl)
    | 9, _ => exact He.glo_ok X G (c.fact 46 (f := .glo "TooMany") rfl)
    | 10, _ => exact He.glo_ok X G (c.fact 47 (f := .glo "BadBlock") rfl)
    | 11, _ => exact He.glo_ok X G (c.fact 48 (f := .glo "Stopped") rfl)
    | 12, _ => exact He.glo_ok X G (c.fact 49 (f := .glo "BadText") rfl)
    | n + 13, h => exact absurd h (by omega)) (He.glo_ok X G (c.fact 50 (f := .glo "ColumnError") rfl))
  have X_BadNumber : Exc1 K mg "BadNumber" (He.ga K "BadNumber") := by
    obtain ⟨x1, x2, x3, x4⟩ := He.exc_ok (c.fact 72 (f := .exc "BadNumber") rfl)
    exact ⟨He.glo_ok X G (c.fact 37 (f := .glo "BadNumber") rfl), x1, x2, x3, x4⟩
  have X_BadPrices : Exc1 K mg "BadPrices" (He.ga K "BadPrices") := by
    obtain ⟨x1, x2, x3, x4⟩ := He.exc_ok (c.fact 73 (f := .exc "BadPrices") rfl)
    exact ⟨He.glo_ok X G (c.fact 40 (f := .glo "BadPrices") rfl), x1, x2, x3, x4⟩
  have hexM := hex0
  have G_per_cell : Fn P w K mg base CX0 1 "per_cell" P_per_cell spPer := ok_per_cell T D_per_cell
  have G_check_below : Fn P w K mg base CX0 1 "check_below" P_check_below (spChk K) := ok_check_below T D_check_below
  have G_cell_of : Fn P w K mg base CX0 1 "cell_of" P_cell_of (spCell K) := ok_cell_of T D_cell_of
  have G_packed : Fn P w K mg base CX0 2 "packed" P_packed (spPck K) := ok_packed T D_packed G_per_cell G_check_below G_cell_of
  have G_begun := ok_begun (P := P) (w := w) (base := base) T D__law_begun
  have G_take := ok_take (P := P) (w := w) (K := K) (base := base) T D__law_take
  have G_values := ok_values (P := P) (w := w) (base := base) T D__law_values G_take
  have G_check_values : Fn P w K mg base CX0 1 "check_values" P_check_values (spChV K) := ok_check_values T D_check_values
  have G_make_plain : Fn P w K mg base CX0 1 "make_plain" P_make_plain (spMk K mkPlain) := ok_make_plain T D_make_plain
  have G_make_one : Fn P w K mg base CX0 1 "make_one" P_make_one (spMk K mkOne) := ok_make_one T D_make_one
  have G_packed_from : Fn P w K mg base CX0 3 "packed_from" P_packed_from (spPf K) := ok_packed_from T D_packed_from G_packed
  have G_make_codes : Fn P w K mg base CX0 3 "make_codes" P_make_codes (spMk K mkCodes) := ok_make_codes T D_make_codes G_packed
  have G_make_near : Fn P w K mg base CX0 4 "make_near" P_make_near (spMk K mkNear) := ok_make_near T D_make_near G_packed_from
  have G_make_steps : Fn P w K mg base CX0 4 "make_steps" P_make_steps (spMk K mkSteps) := ok_make_steps T D_make_steps G_packed_from
  have G_room : Fn P w K mg base CX0 1 "room" P_room (spRoom K) := ok_room T D_room
  have M : Makers P w K mg base (He.ga K "MAKERS") := ⟨He.glo_ok X G (c.fact 36 (f := .glo "MAKERS") rfl), K_MAKERS, fun i hi => by
    match i, hi with
    | 0, _ => exact ⟨_, held_of G_make_plain (He.glo_ok X G (c.fact 5 (f := .glo "make_plain") rfl)) (by decide), kdct_of K_MAKERS hexM (x := "plain") (y := "make_plain") (by simp [tab0])⟩
    | 1, _ => exact ⟨_, held_of G_make_one (He.glo_ok X G (c.fact 6 (f := .glo "make_one") rfl)) (by decide), kdct_of K_MAKERS hexM (x := "one") (y := "make_one") (by simp [tab0])⟩
    | 2, _ => exact ⟨_, held_of G_make_codes (He.glo_ok X G (c.fact 7 (f := .glo "make_codes") rfl)) (by decide), kdct_of K_MAKERS hexM (x := "codes") (y := "make_codes") (by simp [tab0])⟩
    | 3, _ => exact ⟨_, held_of G_make_near (He.glo_ok X G (c.fact 8 (f := .glo "make_near") rfl)) (by decide), kdct_of K_MAKERS hexM (x := "near") (y := "make_near") (by simp [tab0])⟩
    | 4, _ => exact ⟨_, held_of G_make_steps (He.glo_ok X G (c.fact 9 (f := .glo "make_steps") rfl)) (by decide), kdct_of K_MAKERS hexM (x := "steps") (y := "make_steps") (by simp [tab0])⟩
    | n + 5, h => exact absurd h (by omega)⟩
  have G_best := ok_best T M D_least_form G_check_values G_make_plain G_room
  have T4 : Txt4 mg := ⟨He.free_ok X G (c.fact 69 rfl), He.free_ok X G (c.fact 70 rfl), He.free_ok X G (c.fact 68 rfl)⟩
  have G_alike := ok_alike (P := P) (w := w) (K := K) (base := base) T T4 D__law_alike 4
  have G_lper := ok_lper (P := P) (w := w) (K := K) (base := base) T D__law_per
  have G_lpacked := ok_lpacked T D__law_packed G_lper
  have G_labove := ok_labove T D__law_above G_lpacked
  have G_lform := ok_lform T D__law_form G_lpacked G_labove
  have G_lroom := ok_lroom (P := P) (w := w) (K := K) (base := base) T T4 D__law_room 3
  have G_lleast := ok_lleast T D__law_least G_lform G_lroom
  have TC : TxtC mg := ⟨He.int_ok X G (c.fact 55 rfl)⟩
  have G_packed_cells := ok_packed_cells (P := P) (w := w) (K := K) (base := base) T D_packed_cells G_per_cell
  have G_fewest_cells := ok_fewest_cells (P := P) (w := w) (K := K) (base := base) T D_fewest_cells G_packed_cells
  have G_rooms_from := ok_rooms_from T TC D_rooms_from G_fewest_cells
  have G_best_ends := ok_best_ends T D_best_ends G_rooms_from
  have G_cut := ok_cut T D_cut G_check_values G_best G_best_ends
  have G_prices := ok_prices T D_prices G_check_values G_rooms_from
  have TE : TxtE mg := ⟨He.free_ok X G (c.fact 71 rfl)⟩
  have G_class := ok_class (P := P) (w := w) (base := base) T TE KS D__law_class
  have G_bound := ok_boundX (CB := He.ga K "BadPrices") T X_BadPrices D_bound G_check_values G_rooms_from
  have G_trooms := ok_trooms T D__law_rooms G_lleast G_lroom
  have G_due := ok_due (P := P) (w := w) (K := K) (base := base) T D__law_due
  have G_bent := ok_bent (P := P) (w := w) (K := K) (base := base) T D__law_bent G_take
  exact ok_law T T4 KS F hcode_law TB_law D__law_told G_class G_begun G_take G_values G_trooms G_due G_bent G_alike G_room G_cut G_prices G_bound
end
end K3
open PySem PySem.W PySem.Calls PyProof.Rows
theorem PySem.Challenge.cw_codecolumns_k06_prices_judged_holds : PySem.Challenge.rw_codecolumns_k06_prices_judged.Holds := by
  w_on; o_law
  refine HandSHeadRun.head_any (r := OpenLaw.row PySem.Challenge.rw_codecolumns_k06_prices_judged) (q := view (OpenLaw.row PySem.Challenge.rw_codecolumns_k06_prices_judged).prog [61]) (H := K3.hk) (ob := K3.ob) (M := 9000) (loose := K3.looseL) (d := HandSHeadRun.topDef (OpenLaw.row PySem.Challenge.rw_codecolumns_k06_prices_judged).prog 61) (kwd := []) K3.ob_eq
    (by kernel_rfl) (fun s => by kernel_rfl) K3.run (by kernel_rfl) (by kernel_rfl) (by kernel_rfl) (by rfl) (by first | assumption | decide +kernel) (by decide +kernel) ⟨rfl, rfl, rfl, rfl, rfl, by decide +kernel⟩ ?hw ?hc
  case hw => w_witness2
  case hc =>
    refine K3.walk_ofTE (l := PySem.Challenge.rw_codecolumns_k06_prices_judged) (n := 63) (k := 23) (x := "_law_script") (CX := fun _ => L2.CX0) rfl (by decide) (by kernel_rfl) ⟨rfl, by decide, by decide⟩ ?F (fun _ _ _ _ _ z => z)
    intro w mg fa h Y G hmg0
    obtain ⟨K, KX, c⟩ := Y
    have hmg : mg ("law" : PySem.Str) = some (.ref fa) := by
      have e : (HandSHeadRun.topDef (OpenLaw.row PySem.Challenge.rw_codecolumns_k06_prices_judged).prog 61).name = ("law" : PySem.Str) := by kernel_rfl
      rw [← e]
      exact hmg0
    obtain ⟨fd, hb, hF⟩ := K3.law_facts (P := (PySem.Challenge.rw_codecolumns_k06_prices_judged).prog) (w := w) KX G hmg c
    refine ⟨K, KX, fd, K3.tfL.map (He.cT K), K3.spLawT K (He.cT K ("law", none)).2, fun p hp => ?_, fun p hp => ?_, fun p hp => ?_, hb, fun H a ns hl hbits hT hS => ?_, fun base kb nb TBs => hF base kb nb (TBs (He.cT K ("law", none)) (List.mem_map.mpr ⟨("law", none), by simp [K3.tfL], rfl⟩))⟩
    · obtain ⟨q, hq, e⟩ := List.mem_map.mp hp
      rw [← e]
      exact c.empty q hq
    · obtain ⟨q, hq, e⟩ := List.mem_map.mp hp
      rw [← e]
      exact c.out q hq
    · obtain ⟨q, hq, e⟩ := List.mem_map.mp hp
      rw [← e]
      exact codeHd_of_K KX (c.hd q hq)
    · exact ⟨a, ns, rfl, hS, hl, K3.tabs_start hT (fun q hq => ⟨He.cT K ("law", none), List.mem_map.mpr ⟨("law", none), by simp [K3.tfL], rfl⟩, by rw [List.mem_singleton.mp hq]⟩), fun _ => rfl⟩
