import PyProof.Rows.All
import Wide.All
import OpenK.AllK
import Wide.FinOn
import HandS.ForMost
import HandS.Exc
import HandS.TryOnly
import HandS.ExcOwn
import HandS.WordsExc
import HandS.Defaults
import HandS.Style
import HandS.Strs
import HandS.SetFor
import HandS.SortInts
import HandS.IsInst
import HandS.CallLocal
import HandS.FStr
import HandS.Rev
import HandS.TupAny
import HandS.Walk
import HandS.HeadEnd
import HandS.HeadHook3
import PySem.Challenge.RW_codecolumns_k20_texts_refused
import KE.KEqSeq
import HandS.Wide
import HandS.HotCalls
import HandS.Lambda
import HandS.EndTab
import HandS.HeadHook4
import HandS.RaiseMore
import KE.KExcIs
import HandS.ExcIs
import HandS.ExcField
import KE.KDflt
import HandS.ExcInit
import HandS.ClsMeth
import KE.GoesEnum
import HandS.Iter
import PyProof.AutoSeq1
import KE.DataEq
import KE.Datum
import KE.DatumMore
import KE.DatumOrd
import KE.DatumMoreOrd
import HandS.Codes
import PyProof.StrOps2
import HandS.Evl
import HandS.More
import KE.GoesRaise
import HandS.Text
import HandS.StrMore
import KE.IntTextLaws
import PyProof.ListStr
import HandS.Head0
import HandS.Head1
import HandS.Head2
import HandS.HeadHook1
import HandS.HeadHook2
set_option Elab.async false
set_option linter.all false
set_option maxRecDepth 100000
namespace K3
open PySem PySem.Spec PyProof.Rows L2
def top (i : Nat) : Stmt := PySem.Challenge.pw_codecolumns_k20_texts_refused.main.body.getD i (.Pass ⟨0, 0, 0, 0⟩)

/-- a def that keeps its promise, by its name -/
structure Fn (P : Program) (w : World) (K : PySem.W.Frag) (mg : Str → Option Value) (base : Heap) (CX : CXT) (k : Nat) (x : Str) (ps : List Str) (sp : Sp) : Prop where
  ex : ∃ (f : Addr) (fd : FuncData), FnOk P w K mg base CX k f fd ps sp ∧ mg x = some (.ref f) ∧ PySem.W.keepIn K (.ref f) = true ∧ Binds K fd ps []
/-- a def as it stands behind the top, by its name -/
structure Df (K : PySem.W.Frag) (mg : Str → Option Value) (x : Str) (st : Stmt) (ps : List Str) : Prop where
  ex : ∃ (f : Addr) (fd : FuncData), FunD K x x (defArgs st) (defBody st) (defScope st) [] [] f fd ∧ mg x = some (.ref f) ∧ Binds K fd ps []
section
variable {X : Cx} {CX : CXT} {k : Nat} {ps : List Str} {sp : Sp} {E : XK} {x : Str} {p pos : Pos} {e : Expr} {es : List Expr} {t : TA}
theorem pe_c (F : Fn X.prog X.w X.K X.mg X.base CX k x ps sp) (hr : Room k X.A) (hx : Passes CX X E) (ha : PA X (e :: es) t) (hg : Gl X x := by rfl) (hdb : (x == ("__debug__" : Str)) = false := by decide)
    (he : starEach (e :: es) X.env = (false, eval e X.env) :: starEach es X.env := by rfl) (hpl : (backTo pos (starEach es X.env)).any (·.1) = false := by rfl) : PE X (.Call (.Name x p) (e :: es) [] pos) (tCall sp [] E t) := by
  obtain ⟨f, fd, G, hm, hk, hb⟩ := F.ex
  exact pe_call G hr hg hm hk hb .nil hx ha hdb he hpl
theorem pe_gint {i : Int} (h : ∃ t, X.mg x = some (.int i t)) (hg : Gl X x := by rfl) (hd : (x == ("__debug__" : Str)) = false := by decide) : PE X (.Name x pos) (tC (.int i)) := by
  obtain ⟨t, h⟩ := h
  exact pe_glob hg h ⟨t, rfl⟩ hd
end
section
variable {P : Program} {w : World} {K : PySem.W.Frag} {mg : Str → Option Value} {base : Heap}
/-- THE RULE for a def that raises nothing -/
theorem Df.ok {x : Str} {st : Stmt} {N ps : List Str} {k : Nat} {sp : Sp} (D : Df K mg x st ps) (S : FnScope N ps (defScope st)) (len : ∀ vs H Q E, sp vs H Q E → vs.length = ps.length)
    (hbody : ∀ (f : Addr) (cdv : Value) (A : Around) (outer : List Env) (s : Shared) (H : Hp) (vs : List V) (Q : VK) (E : XK), Room k (A.deeper (envOfC x (defScope st) s.heap.objs.size f cdv)) → sp vs H Q E →
      ∃ t, PSs (cxOf CX0 P w K mg base N x (defScope st) f cdv A outer s H E).nox (defBody st) t ∧ t { nx := fun _ H' => Q .non H', rt := Q } (start N vs) H) : Fn P w K mg base CX0 (k + 1) x ps sp := by
  obtain ⟨f, fd, F, hm, hb⟩ := D.ex
  refine ⟨f, fd, F.ok S len fun cdv A outer s H vs Q E hr hsp => ?_, hm, F.kp, hb⟩
  obtain ⟨t, h, q⟩ := hbody f cdv A outer s H vs Q E hr hsp
  exact ⟨t, h.nox, q⟩
/-- .. for one that may raise -/
theorem Df.okX {x : Str} {st : Stmt} {N ps : List Str} {k : Nat} {sp : Sp} (D : Df K mg x st ps) (S : FnScope N ps (defScope st)) (len : ∀ vs H Q E, sp vs H Q E → vs.length = ps.length)
    (hbody : ∀ (f : Addr) (cdv : Value) (A : Around) (outer : List Env) (s : Shared) (H : Hp) (vs : List V) (Q : VK) (E : XK), Room k (A.deeper (envOfC x (defScope st) s.heap.objs.size f cdv)) → sp vs H Q E →
      ∃ t, PSs (cxOf (L2.CX P w) P w K mg base N x (defScope st) f cdv A outer s H E) (defBody st) t ∧ t { nx := fun _ H' => Q .non H', rt := Q } (start N vs) H) : Fn P w K mg base (L2.CX P w) (k + 1) x ps sp := by
  obtain ⟨f, fd, F, hm, hb⟩ := D.ex
  exact ⟨f, fd, F.ok S len fun cdv A outer s H vs Q E hr hsp => hbody f cdv A outer s H vs Q E hr hsp, hm, F.kp, hb⟩
end
/-- what the top has written besides its defs -/
structure Txt (mg : Str → Option Value) : Prop where
  c_MOST : ∃ t, mg "MOST" = some (.int 9999 t)
  b_len : mg "len" = none
  b_tuple : mg "tuple" = none
  b_list : mg "list" = none
  b_int : mg "int" = none
  b_range : mg "range" = none
  b_enumerate : mg "enumerate" = none
  b_reversed : mg "reversed" = none
  b_min : mg "min" = none
  b_max : mg "max" = none
  b_set : mg "set" = none
  b_sorted : mg "sorted" = none
  b_isinstance : mg "isinstance" = none
/-! ### heaps -/
theorem _root_.L2.Same.upd {H : Hp} {p : Addr} {o : HO} (h : H p = none) : Same H (upd H p o) := fun b u e => by rw [upd_ne (ne_of_none e h)]; exact e
theorem _root_.L2.Same.upd' {H H1 : Hp} {p : Addr} {o : HO} (s : Same H H1) (h : H1 p = none) : Same H (L2.upd H1 p o) := s.trans (Same.upd h)
theorem _root_.L2.Same.seqT {K : PySem.W.Frag} {H H' : Hp} {a : Addr} {xs : List V} (e : Same H H') (h : SqT K H a xs) : SqT K H' a xs := by
  rcases h with (h | ⟨o, h⟩) | h
  · exact .inl (.inl (e _ _ h))
  · exact .inl (.inr ⟨o, e _ _ h⟩)
  · exact .inr h
section
variable {X : Cx} {pos : Pos}
theorem pg_tupK {K : PySem.W.Frag} (eK : X.K = K) {es : List Expr} {k : Nat} {t : TGs} {n : Nat} (hc : X.calm = true) (h : PGs X es t)
    (hn : (assignEach es X.env).length = n := by rfl) (hst : (assignEach es X.env).findIdx? (·.1) = none := by rfl) : PG X (.Tuple es k pos) (gTup K n t) := by
  subst eK
  exact pg_tup hc h hn hst
end
end K3

set_option linter.all false
/-! K3M: numbers packed in cells, in plain Lean -/
namespace K3
/-- how many numbers below b a cell holds: f turns left, r the reach -/
def perGo (b : Int) : Nat → Int → Nat
  | 0, _ => 0
  | f + 1, r => if r ≤ 10000 then 1 + perGo b f (r * b) else 0
def perC (b : Int) : Nat := perGo b 14 b
theorem perC_pos {b : Int} (h : b ≤ 10000) : 1 ≤ perC b := by
  show 1 ≤ (if b ≤ 10000 then 1 + perGo b 13 (b * b) else 0)
  rw [if_pos h]; omega
theorem perGo_le (b : Int) : ∀ (f : Nat) (r : Int), perGo b f r ≤ f
  | 0, _ => Nat.le_refl 0
  | f + 1, r => by
    have ih := perGo_le b f (r * b)
    show (if r ≤ 10000 then 1 + perGo b f (r * b) else 0) ≤ f + 1
    split <;> omega
theorem perC_le (b : Int) : perC b ≤ 14 := perGo_le b 14 b
/-- what the while keeps: m counted, r reached, f turns left -/
structure PerAt (b : Int) (m : Nat) (r : Int) (f : Nat) : Prop where
  sum : perC b = m + perGo b f r
  big : (2 : Int) ^ (15 - f) ≤ r
  few : f ≤ 14
theorem PerAt.start {b : Int} (h : 2 ≤ b) : PerAt b 0 b 14 := ⟨by rw [Nat.zero_add]; rfl, by simpa using h, Nat.le_refl _⟩
theorem PerAt.pos {b : Int} {m : Nat} {r : Int} {f : Nat} (h : PerAt b m r f) : 0 < r := Int.lt_of_lt_of_le (Int.pow_pos (by decide)) h.big
theorem PerAt.turn {b : Int} {m : Nat} {r : Int} {f : Nat} (h : PerAt b m r f) (hb : 2 ≤ b) (hr : r ≤ 10000) : ∃ f', PerAt b (m + 1) (r * b) f' := by
  cases f with
  | zero =>
    have h1 := h.big
    have h2 : (2 : Int) ^ (15 - 0) = 32768 := by decide
    omega
  | succ f =>
    refine ⟨f, ?_, ?_, by have := h.few; omega⟩
    · have h1 := h.sum
      have h2 : perGo b (f + 1) r = 1 + perGo b f (r * b) := if_pos hr
      rw [h1, h2]; omega
    · have h1 := h.big
      have h3 := h.few
      have e : 15 - f = (15 - (f + 1)) + 1 := by omega
      rw [e, Int.pow_succ]
      have h0 : (0 : Int) ≤ 2 ^ (15 - (f + 1)) := Int.le_of_lt (Int.pow_pos (by decide))
      exact Int.mul_le_mul h1 hb (by decide) (Int.le_trans h0 h1)
theorem PerAt.done {b : Int} {m : Nat} {r : Int} {f : Nat} (h : PerAt b m r f) (hr : ¬ r ≤ 10000) : perC b = m := by
  rw [h.sum]
  cases f with
  | zero => rfl
  | succ f =>
    show m + (if r ≤ 10000 then 1 + perGo b f (r * b) else 0) = m
    rw [if_neg hr]; rfl
/-- a cell of numbers, the first counts as it is -/
def val (b : Int) : List Int → Int
  | [] => 0
  | n :: r => val b r * b + n
def digits (b : Int) : Nat → Int → List Int
  | 0, _ => []
  | k + 1, c => (c % b) :: digits b k (c / b)
def restOf (b : Int) : Nat → Int → Int
  | 0, c => c
  | k + 1, c => restOf b k (c / b)
theorem restOf_succ (b : Int) : ∀ (k : Nat) (c : Int), restOf b (k + 1) c = restOf b k c / b
  | 0, _ => rfl
  | k + 1, c => restOf_succ b k (c / b)
theorem digits_succ (b : Int) : ∀ (k : Nat) (c : Int), digits b (k + 1) c = digits b k c ++ [restOf b k c % b]
  | 0, _ => rfl
  | k + 1, c => by
    show (c % b) :: digits b (k + 1) (c / b) = (c % b) :: (digits b k (c / b) ++ [restOf b k (c / b) % b])
    rw [digits_succ b k (c / b)]
theorem digits_length (b : Int) : ∀ (k : Nat) (c : Int), (digits b k c).length = k
  | 0, _ => rfl
  | k + 1, c => by
    show (digits b k (c / b)).length + 1 = k + 1
    rw [digits_length b k]
theorem val_digit {b n v : Int} (hn : 0 ≤ n) (hb : n < b) : (v * b + n) % b = n ∧ (v * b + n) / b = v := by
  have h0 : b ≠ 0 := by omega
  constructor
  · rw [Int.add_comm, Int.add_mul_emod_self_right]
    exact Int.emod_eq_of_lt hn hb
  · rw [Int.add_comm, Int.add_mul_ediv_right _ _ h0, Int.ediv_eq_zero_of_lt hn hb, Int.zero_add]
theorem digits_zero (b : Int) : ∀ k, digits b k 0 = List.replicate k 0
  | 0 => rfl
  | k + 1 => by
    show (0 % b) :: digits b k (0 / b) = List.replicate (k + 1) 0
    rw [Int.zero_emod, Int.zero_ediv, digits_zero b k]; rfl
theorem digits_val {b : Int} : ∀ (ns : List Int) (k : Nat), (∀ n ∈ ns, 0 ≤ n ∧ n < b) → ns.length ≤ k → digits b k (val b ns) = ns ++ List.replicate (k - ns.length) 0
  | [], k, _, _ => by rw [List.nil_append, List.length_nil, Nat.sub_zero]; exact digits_zero b k
  | n :: r, 0, _, h => absurd h (by simp)
  | n :: r, k + 1, hb, hl => by
    obtain ⟨h1, h2⟩ := val_digit (v := val b r) (hb n (List.mem_cons_self ..)).1 (hb n (List.mem_cons_self ..)).2
    show ((val b r * b + n) % b) :: digits b k ((val b r * b + n) / b) = _
    rw [h1, h2, digits_val r k (fun m hm => hb m (List.mem_cons_of_mem _ hm)) (by simpa using hl)]
    simp
/-- the cells, k numbers each -/
def pack (b : Int) (k : Nat) : Nat → List Int → List Int
  | 0, _ => []
  | _ + 1, [] => []
  | f + 1, n :: r => val b ((n :: r).take k) :: pack b k f ((n :: r).drop k)
def packed (b : Int) (ns : List Int) : List Int := pack b (perC b) ns.length ns
theorem pack_nil (b : Int) (k : Nat) : ∀ f, pack b k f [] = []
  | 0 => rfl
  | _ + 1 => rfl
/-- the i-th cell -/
theorem pack_get (b : Int) {k : Nat} (hk : 1 ≤ k) : ∀ (f : Nat) (ns : List Int) (i : Nat), ns.length ≤ f → (pack b k f ns)[i]? = if i * k < ns.length then some (val b ((ns.drop (i * k)).take k)) else none
  | 0, ns, i, h => by
    have e : ns = [] := List.length_eq_zero_iff.mp (by omega)
    subst e
    simp [pack]
  | f + 1, [], i, h => by simp [pack]
  | f + 1, n :: r, 0, h => by simp [pack]
  | f + 1, n :: r, i + 1, h => by
    show (pack b k f ((n :: r).drop k))[i]? = _
    have hl : ((n :: r).drop k).length ≤ f := by rw [List.length_drop]; simp at h ⊢; omega
    rw [pack_get b hk f _ i hl, List.length_drop, List.drop_drop]
    have e : k + i * k = (i + 1) * k := by rw [Nat.add_mul, Nat.one_mul, Nat.add_comm]
    rw [e]
    by_cases c : (i + 1) * k < (n :: r).length
    · rw [if_pos c, if_pos (by omega)]
    · rw [if_neg c, if_neg (by omega)]
theorem pack_length (b c : Int) (k : Nat) : ∀ (f : Nat) (ns ms : List Int), ns.length = ms.length → (pack b k f ns).length = (pack c k f ms).length
  | 0, _, _, _ => rfl
  | _ + 1, [], [], _ => rfl
  | _ + 1, [], _ :: _, h => by simp at h
  | _ + 1, _ :: _, [], h => by simp at h
  | f + 1, n :: r, m :: q, h => by
    show (pack b k f ((n :: r).drop k)).length + 1 = (pack c k f ((m :: q).drop k)).length + 1
    rw [pack_length b c k f ((n :: r).drop k) ((m :: q).drop k) (by rw [List.length_drop, List.length_drop, h])]
theorem pack_le (b : Int) {k : Nat} (hk : 1 ≤ k) : ∀ (f : Nat) (ns : List Int), (pack b k f ns).length ≤ ns.length
  | 0, _ => Nat.zero_le _
  | _ + 1, [] => Nat.le_refl _
  | f + 1, n :: r => by
    have ih := pack_le b hk f ((n :: r).drop k)
    rw [List.length_drop] at ih
    show (pack b k f ((n :: r).drop k)).length + 1 ≤ (n :: r).length
    simp at ih ⊢; omega
/-- read again -/
theorem unpack {b : Int} {k : Nat} (hk : 1 ≤ k) : ∀ (f : Nat) (ns : List Int), ns.length ≤ f → (∀ n ∈ ns, 0 ≤ n ∧ n < b) → ∃ z, (pack b k f ns).flatMap (digits b k) = ns ++ List.replicate z 0
  | 0, ns, h, _ => by
    have e : ns = [] := List.length_eq_zero_iff.mp (by omega)
    subst e
    exact ⟨0, rfl⟩
  | f + 1, [], _, _ => ⟨0, rfl⟩
  | f + 1, n :: r, h, hb => by
    have hl : ((n :: r).drop k).length ≤ f := by rw [List.length_drop]; simp at h ⊢; omega
    obtain ⟨z, e⟩ := unpack hk f ((n :: r).drop k) hl fun m hm => hb m (List.mem_of_mem_drop hm)
    show ∃ z, (val b ((n :: r).take k) :: pack b k f ((n :: r).drop k)).flatMap (digits b k) = _
    rw [List.flatMap_cons, e, digits_val _ k (fun m hm => hb m (List.mem_of_mem_take hm)) (by rw [List.length_take]; omega)]
    by_cases c : k ≤ (n :: r).length
    · refine ⟨z, ?_⟩
      rw [List.length_take, Nat.min_eq_left c, Nat.sub_self, List.replicate_zero, List.append_nil, ← List.append_assoc, List.take_append_drop]
    · have c' : (n :: r).length ≤ k := by omega
      rw [List.take_of_length_le c', List.drop_of_length_le c', List.nil_append, List.append_assoc, List.replicate_append_replicate]
      exact ⟨_, rfl⟩
theorem unpacked_packed {b : Int} (hb : b ≤ 10000) (ns : List Int) (h : ∀ n ∈ ns, 0 ≤ n ∧ n < b) : ((packed b ns).flatMap (digits b (perC b))).take ns.length = ns := by
  obtain ⟨z, e⟩ := unpack (perC_pos hb) ns.length ns (Nat.le_refl _) h
  show ((pack b (perC b) ns.length ns).flatMap (digits b (perC b))).take ns.length = ns
  rw [e, List.take_left']
  rfl
end K3
namespace K3
theorem val_step (b : Int) {ns : List Int} {i : Nat} {x : Int} (hi : i < ns.length) (h : ns[ns.length - 1 - i]? = some x) : val b (ns.drop (ns.length - (i + 1))) = val b (ns.drop (ns.length - i)) * b + x := by
  have e : ns.length - 1 - i = ns.length - (i + 1) := by omega
  rw [e] at h
  obtain ⟨hl, hx⟩ := List.getElem?_eq_some_iff.mp h
  rw [List.drop_eq_getElem_cons hl, hx]
  have e2 : ns.length - (i + 1) + 1 = ns.length - i := by omega
  rw [e2]
  rfl
/-- how many cells -/
def cells (k n : Nat) : Nat := (n + k - 1) / k
theorem cells_lt {k n i : Nat} (hk : 1 ≤ k) : i < cells k n ↔ i * k < n := by
  unfold cells
  constructor
  · intro h
    have h1 : (i + 1) * k ≤ n + k - 1 := Nat.le_trans (Nat.mul_le_mul_right k h) (Nat.div_mul_le_self _ _)
    rw [Nat.add_mul, Nat.one_mul] at h1
    omega
  · intro h
    refine (Nat.le_div_iff_mul_le (by omega)).mpr ?_
    rw [Nat.succ_mul]
    omega
theorem packed_eq {b : Int} (hb : b ≤ 10000) (ns : List Int) : (List.range (cells (perC b) ns.length)).map (fun i => val b ((ns.drop (i * perC b)).take (perC b))) = packed b ns := by
  have hk := perC_pos hb
  apply List.ext_getElem?
  intro i
  unfold packed
  rw [pack_get b hk _ _ _ (Nat.le_refl _), List.getElem?_map]
  by_cases c : i < cells (perC b) ns.length
  · rw [if_pos ((cells_lt hk).mp c), List.getElem?_range c]
    rfl
  · rw [if_neg (fun z => c ((cells_lt hk).mpr z)), List.getElem?_eq_none (by rw [List.length_range]; omega)]
    rfl
theorem cells_le {k n : Nat} (hk : 1 ≤ k) : cells k n ≤ n := by
  rcases Nat.lt_or_ge n (cells k n) with h | h
  · have := (cells_lt hk).mp h
    have h2 : n * 1 ≤ n * k := Nat.mul_le_mul_left n hk
    omega
  · exact h
end K3
namespace K3
theorem flat_length (b : Int) (k : Nat) : ∀ cs : List Int, (cs.flatMap (digits b k)).length = cs.length * k
  | [] => by simp
  | c :: r => by
    rw [List.flatMap_cons, List.length_append, digits_length, flat_length b k r, List.length_cons, Nat.succ_mul, Nat.add_comm]
end K3

set_option Elab.async false
set_option linter.all false
set_option maxRecDepth 100000
set_option maxHeartbeats 4000000
namespace K3
open PySem PySem.Spec PyProof.Rows L2
theorem map_at {α : Type} {f : α → V} {l : List α} {i : Nat} {y : V} (h : (l.map f)[i]? = some y) : ∃ z, l[i]? = some z ∧ y = f z := by
  rw [List.getElem?_map] at h
  cases e : l[i]? with
  | none =>
    rw [e] at h
    cases h
  | some z =>
    rw [e] at h
    exact ⟨z, rfl, (Option.some.inj h).symm⟩
theorem take_more {α : Type} : ∀ {l : List α} {i : Nat} {x : α}, l[i]? = some x → l.take (i + 1) = l.take i ++ [x]
  | [], i, x, h => by simp at h
  | a :: l, 0, x, h => by
    obtain rfl : a = x := Option.some.inj h
    rfl
  | a :: l, i + 1, x, h => by
    rw [List.take_succ_cons, take_more (l := l) (i := i) (x := x) h, List.take_succ_cons]
    rfl
theorem _root_.L2.Same.put {H H1 : Hp} {p : Addr} {o : HO} (s : Same H H1) (n : H p = none) : Same H (L2.upd H1 p o) := fun b u e => by
  rw [upd_ne (ne_of_none e n)]
  exact s b u e
theorem cutV_take (xs : List V) (m : Nat) : cutV xs none (some (m : Int)) = xs.take m := by
  unfold cutV
  rw [HT.sIx_none, HT.sIx_nat, Nat.sub_zero, List.drop_zero]
  by_cases c : m ≤ xs.length
  · rw [Nat.min_eq_left c]
  · rw [Nat.min_eq_right (by omega), List.take_length, List.take_of_length_le (by omega)]
theorem cutV_part (xs : List V) (i k : Nat) : cutV xs (some (i : Int)) (some ((i : Int) + (k : Int))) = (xs.drop i).take k := by
  have e : (i : Int) + (k : Int) = ((i + k : Nat) : Int) := by omega
  unfold cutV
  rw [e, HT.sIx_nat, HT.sIx_nat]
  by_cases c : i ≤ xs.length
  · rw [Nat.min_eq_left c]
    by_cases d : i + k ≤ xs.length
    · rw [Nat.min_eq_left d, Nat.add_sub_cancel_left]
    · rw [Nat.min_eq_right (by omega), List.take_of_length_le (by rw [List.length_drop]; omega), List.take_of_length_le (by rw [List.length_drop]; omega)]
  · rw [Nat.min_eq_right (by omega), Nat.min_eq_right (by omega), Nat.sub_self, List.take_zero, List.drop_of_length_le (by omega), List.take_nil]
theorem rgC_up {n k : Nat} (hk : 1 ≤ k) (hk2 : k < 1000000) (hn : n < 1000000) : RgC 0 (n : Int) (k : Int) (cells k n) := by
  have e : Builtin.Range.rangeSize 0 (n : Int) (k : Int) = ((cells k n : Nat) : Int) := by
    rw [rangeSize_pos (by omega) (by omega)]
    unfold cells
    rw [Int.natCast_ediv]
    congr 1
    omega
  have hc := cells_le (n := n) hk
  refine ⟨by omega, by omega, ?_, e⟩
  unfold Builtin.Range.small
  rw [e]
  simp only [Builtin.Range.rangeFitsLong, Bool.and_eq_true, Bool.or_eq_true, decide_eq_true_eq, beq_iff_eq, show ((k : Int) > 0) by omega, if_true]
  omega
/-- a comprehension of one name without an if, over any walk -/
theorem lc_all {J : It} {n : Nat} {G : Hp → Prop} {Y : Nat → Hp → V → Hp → Prop} (w : Walk J n G Y) {j : Nat} {te : TE} {σ : L2.St} {H1 : Hp} {D : Addr} {Qd : Hp → Prop} (Pv : Nat → Hp → Prop) (h0 : Pv 0 (L2.upd H1 D (.lst []))) (hG : ∀ i H, i ≤ n → Pv i H → G H)
    (hs : ∀ i x H H', i < n → Pv i H → Y i H x H' → te (σ.set j (some x)) H' fun y H4 => ∃ acc, H4 D = some (.lst acc) ∧ acc.length < sizeLine ∧ Pv (i + 1) (L2.upd H4 D (.lst (acc ++ [y])))) (hd : ∀ H, Pv n H → Qd H) :
    ∃ W : Nat → Nat → Hp → Prop, (∃ m, W 0 m (L2.upd H1 D (.lst []))) ∧ ∀ i m H, W i m H →
      (J.stop i H ∧ Qd H) ∨ (J.go i H ∧ ∃ Nx : Hp → Prop, (∀ H', Nx H' → ∃ m', m' < m ∧ W (i + 1) m' H') ∧ ∀ x H', J.yld i H x H' → gName j x (wipe σ [j]) H' fun σ2 H2 => wipe σ2 [j] = wipe σ [j] ∧ tYes σ2 H2 fun b H3 =>
        if b = true then te σ2 H3 fun y H4 => ∃ acc, H4 D = some (.lst acc) ∧ acc.length < sizeLine ∧ Nx (L2.upd H4 D (.lst (acc ++ [y]))) else Nx H3) := by
  refine lc_it w Pv h0 hG (fun i x H H' hi p y => ?_) hd
  have q := hs i x H H' hi p y
  have e : (wipe σ [j]).set j (some x) = σ.set j (some x) := by
    show (σ.set j none).set j (some x) = σ.set j (some x)
    rw [List.set_set]
  refine ⟨?_, ?_⟩
  · show ((σ.set j none).set j (some x)).set j none = σ.set j none
    rw [List.set_set, List.set_set]
  · show (if true = true then te ((wipe σ [j]).set j (some x)) H' (fun y H4 => ∃ acc, H4 D = some (.lst acc) ∧ acc.length < sizeLine ∧ Pv (i + 1) (L2.upd H4 D (.lst (acc ++ [y])))) else Pv (i + 1) H')
    rw [e, if_pos rfl]
    exact q
theorem sl_listK {X : Cx} {K : PySem.W.Frag} (e : X.K = K) : SlR X (rSlL K) := by
  subst e
  exact sl_list
section
variable {P : Program} {w : World} {K : PySem.W.Frag} {mg : Str → Option Value} {base : Heap}
def spPer : Sp := fun vs H Q _ => ∃ b : Int, vs = [.int b] ∧ 2 ≤ b ∧ b ≤ 10000 ∧ Q (.int (perC b)) H
def reach : L2.St → Nat
  | [_, _, some (.int r)] => (10001 - r).toNat
  | _ => 0
def spChk (K : PySem.W.Frag) : Sp := fun vs H Q _ => ∃ (b : Int) (a : Addr) (ns : List Int), vs = [.int b, .ref a] ∧ SqL K H a (ns.map V.int) ∧ (∀ n ∈ ns, 0 ≤ n ∧ n < b) ∧ ∀ H', Same H H' → Q .non H'
def spCell (K : PySem.W.Frag) : Sp := fun vs H Q _ => ∃ (b : Int) (a : Addr) (ns : List Int), vs = [.int b, .ref a] ∧ SqL K H a (ns.map V.int) ∧ 2 ≤ b ∧ b ≤ 10000 ∧ Q (.int (val b ns)) H
def spNum : Sp := fun vs H Q _ => ∃ (b c : Int), vs = [.int b, .int c] ∧ 2 ≤ b ∧ b ≤ 10000 ∧ ∀ (H' : Hp) (p : Addr), Same H H' → H p = none → H' p = some (.lst ((digits b (perC b) c).map V.int)) → Q (.ref p) H'
def spPck (K : PySem.W.Frag) : Sp := fun vs H Q _ => ∃ (b : Int) (a : Addr) (ns : List Int), vs = [.int b, .ref a] ∧ SqL K H a (ns.map V.int) ∧ 2 ≤ b ∧ b ≤ 10000 ∧ (∀ n ∈ ns, 0 ≤ n ∧ n < b) ∧ ns.length ≤ 1000 ∧
  ∀ (H' : Hp) (p : Addr), Same H H' → H p = none → H' p = some (.tup ((K3.packed b ns).map V.int)) → Q (.ref p) H'
def spUnp (K : PySem.W.Frag) : Sp := fun vs H Q _ => ∃ (b : Int) (a : Addr) (cs : List Int) (m : Nat), vs = [.int b, .ref a, .int m] ∧ SqT K H a (cs.map V.int) ∧ 2 ≤ b ∧ b ≤ 10000 ∧ cs.length ≤ 1000 ∧
  ∀ (H' : Hp) (p : Addr), Same H H' → H p = none → H' p = some (.lst (((cs.flatMap (digits b (perC b))).take m).map V.int)) → Q (.ref p) H'
end
end K3

set_option Elab.async false
set_option linter.all false
set_option maxRecDepth 100000
set_option maxHeartbeats 4000000
namespace K3
open PySem PySem.Spec PyProof.Rows L2
/-! ### == of lists of ints -/
theorem eqvAll_ints : ∀ ns ms : List Int, PyData.eqvAll (ns.map PyData.int) (ms.map PyData.int) = decide (ns = ms)
  | [], [] => rfl
  | [], _ :: _ => by simp [PyData.eqvAll]
  | _ :: _, [] => by simp [PyData.eqvAll]
  | n :: ns, m :: ms => by
    rw [List.map_cons, List.map_cons, PyData.eqvAll, eqvAll_ints ns ms, PyData.eqv]
    by_cases h : n = m
    · subst h; simp
    · simp [h]
theorem dpAll_ints {K : PySem.W.Frag} {H : Hp} : ∀ ns : List Int, DpAll K H (ns.map V.int) (ns.map PyData.int)
  | [] => .nil
  | n :: r => .cons (.int n) (dpAll_ints r)
def rEqIs (K : PySem.W.Frag) : R2 := fun x y H Q => ∃ (a b : Addr) (ns ms : List Int), x = .ref a ∧ y = .ref b ∧ SqL K H a (ns.map V.int) ∧ SqL K H b (ms.map V.int) ∧ Q (.bl (decide (ns = ms))) H
def rNeIs (K : PySem.W.Frag) : R2 := fun x y H Q => ∃ (a b : Addr) (ns ms : List Int), x = .ref a ∧ y = .ref b ∧ SqL K H a (ns.map V.int) ∧ SqL K H b (ms.map V.int) ∧ Q (.bl (!decide (ns = ms))) H
theorem op_eqIs {X : Cx} (hu : X.A.units + 64 < cLine) : OpR X (compareOp .Eq) (rEqIs X.K) := by
  intro pins s σ H x y v u Q I rx ry ⟨a, b, ns, ms, ex, ey, h1, h2, q⟩
  subst ex ey
  refine op_eqD hu pins s σ H _ _ v u Q I rx ry ⟨_, _, .lst h1 (dpAll_ints ns), .lst h2 (dpAll_ints ms), PySem.W.ke_shaped_ints ns, PySem.W.ke_shaped_ints ms, ?_⟩
  rw [PyData.eqv, eqvAll_ints]
  exact q
theorem op_neIs {X : Cx} (hu : X.A.units + 64 < cLine) : OpR X (compareOp .NotEq) (rNeIs X.K) := by
  intro pins s σ H x y v u Q I rx ry ⟨a, b, ns, ms, ex, ey, h1, h2, q⟩
  subst ex ey
  refine op_neD hu pins s σ H _ _ v u Q I rx ry ⟨_, _, .lst h1 (dpAll_ints ns), .lst h2 (dpAll_ints ms), PySem.W.ke_shaped_ints ns, PySem.W.ke_shaped_ints ms, ?_⟩
  rw [PyData.eqv, eqvAll_ints]
  exact q
/-! ### the box of draws -/
/-- at b the box: its list of numbers at l, its stirred number -/
def Bx (H : Hp) (b l : Addr) : Prop := ∃ (st : Int) (ns : List Int), H b = some (.lst [.ref l, .int st]) ∧ H l = some (.lst (ns.map V.int)) ∧ ns.length ≤ 63
/-- all but the box stays -/
def Out (b l : Addr) (H H' : Hp) : Prop := ∀ c o, c ≠ b → c ≠ l → H c = some o → H' c = some o
theorem Out.refl {b l : Addr} {H : Hp} : Out b l H H := fun _ _ _ _ e => e
theorem Out.trans {b l : Addr} {H H1 H2 : Hp} (a : Out b l H H1) (c : Out b l H1 H2) : Out b l H H2 := fun d o h1 h2 e => c d o h1 h2 (a d o h1 h2 e)
theorem Out.of {b l : Addr} {H H' : Hp} (s : Same H H') : Out b l H H' := fun _ _ _ _ e => s _ _ e
theorem Out.b {b l : Addr} {H : Hp} {o : HO} : Out b l H (upd H b o) := fun c u h1 _ e => by rw [upd_ne h1]; exact e
theorem Out.l {b l : Addr} {H : Hp} {o : HO} : Out b l H (upd H l o) := fun c u _ h2 e => by rw [upd_ne h2]; exact e
theorem Bx.same {b l : Addr} {H H' : Hp} (h : Bx H b l) (s : Same H H') : Bx H' b l := by
  obtain ⟨st, ns, h1, h2, h3⟩ := h
  exact ⟨st, ns, s _ _ h1, s _ _ h2, h3⟩
theorem Bx.ne {b l : Addr} {H : Hp} (h : Bx H b l) : b ≠ l := by
  obtain ⟨st, ns, h1, h2, h3⟩ := h
  intro e
  subst e
  rw [h1] at h2
  have e2 := HO.lst.inj (Option.some.inj h2)
  cases ns with
  | nil => cases e2
  | cons n r => cases e2
/-- what stands apart from the box is kept -/
theorem Out.at {b l p : Addr} {H H' : Hp} {o : HO} (h : Out b l H H') (h1 : p ≠ b) (h2 : p ≠ l) (e : H p = some o) : H' p = some o := h p o h1 h2 e
theorem Bx.free {b l p : Addr} {H : Hp} (h : Bx H b l) (n : H p = none) : p ≠ b ∧ p ≠ l := by
  obtain ⟨st, ns, h1, h2, h3⟩ := h
  exact ⟨fun e => (by rw [e, h1] at n; cases n), fun e => (by rw [e, h2] at n; cases n)⟩
theorem at0 {x : V} {xs : List V} : atI (x :: xs) 0 = some x := at_of (z := 0) (j := 0) rfl rfl
theorem ix0 (n : Nat) : ixN (n + 1) 0 = some 0 := by
  unfold ixN
  simp
section
variable {P : Program} {w : World} {K : PySem.W.Frag} {mg : Str → Option Value} {base : Heap}
abbrev s__law_begun : Stmt := top 41
abbrev N__law_begun : List Str := ["_law_script", "_law_stirred", "_law_cell"]
abbrev P__law_begun : List Str := ["_law_script"]
theorem sc__law_begun : FnScope N__law_begun P__law_begun (defScope s__law_begun) := ⟨rfl, rfl, rfl, by decide +kernel, rfl, by decide +kernel, by decide +kernel⟩
def spBegun (K : PySem.W.Frag) : Sp := fun vs H Q _ => ∃ (a : Addr) (ns : List Int), vs = [.ref a] ∧ SqL K H a (ns.map V.int) ∧ ns.length ≤ 63 ∧
  ∀ (H' : Hp) (b l : Addr), Same H H' → Bx H' b l → Q (.ref b) H'
theorem ok_begun (T : Txt mg) (D : Df K mg "_law_begun" s__law_begun P__law_begun) : Fn P w K mg base CX0 1 "_law_begun" P__law_begun (spBegun K) := by
  refine D.ok sc__law_begun (fun vs H Q E h => ?_) (fun f cdv A outer s H vs Q E hr h => ?_)
  · obtain ⟨a, ns, rfl, _⟩ := h
    rfl
  · obtain ⟨a, ns, rfl, hS, hl, k⟩ := h
    have nd := sc__law_begun.nd
    refine ⟨_, (pss_cons (ps_set (i := 1) nd rfl (by first | exact Or.inl rfl | exact Or.inr rfl) pe_int)
  (pss_cons (ps_for PassesOwn.never rfl (pi_list (pv 0)) (pg_name (i := 2) nd rfl (by first | exact Or.inl rfl | exact Or.inr rfl))
  (pss_one (ps_set (i := 1) nd rfl (by first | exact Or.inl rfl | exact Or.inr rfl) (pe_op op_mod (pe_op op_add (pe_op op_add (pe_op op_mul (pv 1) pe_int) (pe_op op_mul (pv 2) pe_int)) pe_int) pe_int))))
  (pss_one (ps_ret (pe_lst (pa_cons (pe_callTy call_list_of (by rfl) T.b_list (by decide +kernel) (pa_cons (pv 0) pa_nil)) (pa_cons (pe_op op_mul (pv 1) (pe_callTy call_int1 (by rfl) T.b_int (by decide +kernel) (pa_cons (pe_cmpR op_gt (pe_callB call_len_seq (by rfl) T.b_len (by decide +kernel) (pa_cons (pv 0) pa_nil)) pe_int (nomark _)) pa_nil))) pa_nil))))))), ?_⟩
    refine ⟨_, rfl, a, rfl, ⟨_, hS⟩, for_it walk_list (fun i σ H' => ∃ (z : Int) (v : Option V), σ = [some (.ref a), some (.int z), v] ∧ H' = H) ⟨0, none, rfl, rfl⟩ (fun i σ H' _ ⟨_, _, _, e⟩ => e ▸ hS) ?_ ?_⟩
    · rintro i x σ H1 H2 hi ⟨z, v, rfl, rfl⟩ ⟨rfl, e⟩
      obtain ⟨y, hy, rfl⟩ := map_at e
      refine ⟨_, rfl, _, _, rfl, rfl, .inr (by constructor <;> decide), _, rfl, _, _, rfl, rfl, .inr (by constructor <;> decide), _, _, rfl, rfl, _, _, rfl, rfl, _, _, rfl, rfl, (by show (0 : Int) < 2147483647; decide), ?_⟩
      exact ⟨_, _, rfl, rfl⟩
    · rintro σ H' ⟨z, v, rfl, rfl⟩
      refine ⟨_, rfl, a, _, rfl, .inl hS, fun l nl => ?_⟩
      have hS' := (Same.upd (o := .lst (ns.map V.int)) nl).seq hS
      refine ⟨_, rfl, _, rfl, a, _, rfl, .inl hS', _, _, rfl, rfl, .inr ⟨_, rfl, ?_⟩⟩
      refine ⟨_, _, rfl, rfl, .inr ?_, (by show 2 ≤ sizeLine; decide), fun p np => ?_⟩
      · split <;> constructor <;> decide
      refine k _ p l ((Same.upd nl).upd' np) ⟨_, ns, upd_same, (upd_ne (ne_of_none upd_same np)).trans upd_same, hl⟩
abbrev s__law_take : Stmt := top 42
abbrev N__law_take : List Str := ["_law_box", "_law_many", "_law_number"]
abbrev P__law_take : List Str := ["_law_box", "_law_many"]
theorem sc__law_take : FnScope N__law_take P__law_take (defScope s__law_take) := ⟨rfl, rfl, rfl, by decide +kernel, rfl, by decide +kernel, by decide +kernel⟩
def spTake : Sp := fun vs H Q _ => ∃ (b l : Addr) (m : Int), vs = [.ref b, .int m] ∧ Bx H b l ∧ 0 < m ∧ m < 2000000000000000000 ∧
  ∀ (H' : Hp) (v : Int), Bx H' b l → Out b l H H' → 0 ≤ v → v < m → Q (.int v) H'
theorem ok_take (T : Txt mg) (D : Df K mg "_law_take" s__law_take P__law_take) : Fn P w K mg base CX0 1 "_law_take" P__law_take spTake := by
  refine D.ok sc__law_take (fun vs H Q E h => ?_) (fun f cdv A outer s H vs Q E hr h => ?_)
  · obtain ⟨b, l, m, rfl, _⟩ := h
    rfl
  · obtain ⟨b, l, m, rfl, B, m0, m1, k⟩ := h
    have nd := sc__law_take.nd
    refine ⟨_, (pss_cons (ps_if (pt_cmpR (op_eqIs hr.units) (pe_ix ix_list (pv 0) pe_int (fun _ _ => rfl)) (pe_lst pa_nil) (nomark _))
  (pss_cons (ps_asg (pe_op op_mod (pe_op op_mul (pe_ix ix_list (pv 0) pe_int (fun _ _ => rfl)) pe_int) pe_int) (pg_sub (pv 0) pe_int set_list))
  (pss_one (ps_ret (pe_op op_mod (pe_op op_fdiv (pe_ix ix_list (pv 0) pe_int (fun _ _ => rfl)) pe_int) (pv 1)))))
  pss_nil)
  (pss_cons (ps_set (i := 2) nd rfl (by first | exact Or.inl rfl | exact Or.inr rfl) (pe_ix ix_list (pe_ix ix_list (pv 0) pe_int (fun _ _ => rfl)) pe_int (fun _ _ => rfl)))
  (pss_cons (ps_asg (pe_op op_fdivW (pv 2) (pv 1)) (pg_sub (pe_ix ix_list (pv 0) pe_int (fun _ _ => rfl)) pe_int set_list))
  (pss_cons (ps_if (PW.pt (pw_or (pt_cmpR op_eq (pe_ix ix_list (pe_ix ix_list (pv 0) pe_int (fun _ _ => rfl)) pe_int (fun _ _ => rfl)) pe_int (nomark _)) (pw_or1 (pt_cmpR op_eq (pe_ix ix_list (pe_ix ix_list (pv 0) pe_int (fun _ _ => rfl)) pe_int (fun _ _ => rfl)) (pe_un un_neg pe_int) (nomark _)))))
  (pss_one (ps_expr (pe_bm PySem.F.plainAttrs_list PySem.F.slot_list_pop PySem.F.type_list_pop mt_popAt (pe_ix ix_list (pv 0) pe_int (fun _ _ => rfl)) (pa_cons pe_int pa_nil))))
  pss_nil)
  (pss_one (ps_ret (pe_op op_mod (pv 2) (pv 1)))))))), ?_⟩
    have nbl := B.ne
    obtain ⟨st, ns, h1, h2, h3⟩ := B
    refine ⟨_, rfl, b, _, 0, _, rfl, rfl, SqL.of h1, rfl, Nat.zero_le _, fun p np => ?_⟩
    refine ⟨l, p, ns, [], rfl, rfl, SqL.of ((upd_ne (ne_of_none h2 np)).trans h2), SqL.of upd_same, _, rfl, ?_⟩
    refine ite2 (fun c => ?_) (fun c => ?_)
    · have c' : ns = [] := of_decide_eq_true c
      subst c'
      refine ⟨_, rfl, b, _, 1, _, rfl, rfl, SqL.of ((upd_ne (ne_of_none h1 np)).trans h1), rfl, _, _, rfl, rfl, .inr (by constructor <;> decide), _, _, rfl, rfl, (by show (0 : Int) < 2147483647; decide), _, rfl, b, _, 1, 1, rfl, rfl, (upd_ne (ne_of_none h1 np)).trans h1, rfl, ?_⟩
      refine ⟨_, rfl, b, _, 1, _, rfl, rfl, SqL.of upd_same, rfl, _, _, rfl, rfl, ⟨by decide, by decide⟩, _, rfl, _, _, rfl, rfl, m0, ?_⟩
      refine k _ _ ⟨_, [], upd_same, ?_, Nat.zero_le _⟩ ((Out.of (Same.upd np)).trans Out.b) (Int.emod_nonneg _ (by omega)) (Int.emod_lt_of_pos _ m0)
      rw [upd_ne nbl.symm, upd_ne (ne_of_none h2 np)]
      exact h2
    · cases ns with
      | nil => exact absurd (decide_eq_true rfl) c
      | cons n r =>
        have hb : (upd H p (.lst [])) b = some (.lst [.ref l, .int st]) := (upd_ne (ne_of_none h1 np)).trans h1
        have hl : (upd H p (.lst [])) l = some (.lst (.int n :: r.map V.int)) := (upd_ne (ne_of_none h2 np)).trans h2
        have s1 : Out b l H (upd H p (.lst [])) := Out.of (Same.upd np)
        refine ⟨_, rfl, b, _, 0, _, rfl, rfl, SqL.of hb, rfl, l, _, 0, _, rfl, rfl, SqL.of hl, at0, ?_⟩
        refine ⟨_, rfl, _, rfl, _, _, rfl, rfl, wide_div (b := 64) m0 (by omega) (by decide) (by decide), _, rfl, b, _, 0, _, rfl, rfl, SqL.of hb, rfl, l, _, 0, 0, rfl, rfl, hl, ix0 _, ?_⟩
        have hb2 : (upd (upd H p (.lst [])) l (.lst (.int (n / m) :: r.map V.int))) b = some (.lst [.ref l, .int st]) := (upd_ne nbl).trans hb
        have hl2 : (upd (upd H p (.lst [])) l (.lst (.int (n / m) :: r.map V.int))) l = some (.lst (.int (n / m) :: r.map V.int)) := upd_same
        have s2 : Out b l H (upd (upd H p (.lst [])) l (.lst (.int (n / m) :: r.map V.int))) := s1.trans Out.l
        have kp : tSeq (tDrop (tBM K "list" rPopAt (tOp (rIxL K) (tVar 0) (tC (.int 0))) (tCons (tC (.int 0)) tNil))) (tRet (tOp (rI (fun _ j => 0 < j) fun i j => V.int (i % j)) (tVar 2) (tVar 1))) { nx := fun _ H' => Q .non H', rt := Q }
            [some (.ref b), some (.int m), some (.int n)] (upd (upd H p (.lst [])) l (.lst (.int (n / m) :: r.map V.int))) := by
          refine ⟨_, rfl, b, _, 0, _, rfl, rfl, SqL.of hb2, rfl, .inl ⟨rfl, _, SqL.of hl2⟩, l, _, 0, 0, _, rfl, rfl, hl2, by decide, by decide, ?_, rfl, ?_⟩
          · show seqIndex? 0 (r.map V.int).length.succ = some 0
            unfold seqIndex?
            simp
          refine ⟨_, rfl, _, rfl, _, _, rfl, rfl, m0, ?_⟩
          refine k _ _ ⟨st, r, (upd_ne nbl).trans hb2, upd_same, by simp at h3; omega⟩ (s2.trans Out.l) (Int.emod_nonneg _ (by omega)) (Int.emod_lt_of_pos _ m0)
        refine ⟨_, rfl, b, _, 0, _, rfl, rfl, SqL.of hb2, rfl, l, _, 0, _, rfl, rfl, SqL.of hl2, at0, rfl, _, rfl, ?_⟩
        refine ite2 (fun _ => kp) (fun _ => ?_)
        refine ⟨_, rfl, b, _, 0, _, rfl, rfl, SqL.of hb2, rfl, l, _, 0, _, rfl, rfl, SqL.of hl2, at0, _, rfl, rfl, _, rfl, ?_⟩
        refine ite2 (fun _ => kp) (fun _ => ?_)
        refine ⟨_, rfl, _, rfl, _, _, rfl, rfl, m0, ?_⟩
        exact k _ _ ⟨st, (n / m) :: r, hb2, hl2, by simpa using h3⟩ s2 (Int.emod_nonneg _ (by omega)) (Int.emod_lt_of_pos _ m0)
end
end K3

set_option Elab.async false
set_option linter.all false
set_option maxRecDepth 100000
set_option maxHeartbeats 4000000
namespace K3
open PySem PySem.Spec PyProof.Rows L2
/-- ints, truths, texts, None; tuples and lists of such: the same data -/
inductive Alk (K : PySem.W.Frag) (H : Hp) : Nat → V → V → Prop where
  | non {n : Nat} : Alk K H n .non .non
  | int {n : Nat} (i : Int) : Alk K H n (.int i) (.int i)
  | bl {n : Nat} (b : Bool) : Alk K H n (.bl b) (.bl b)
  | str {n : Nat} (z : Str) : Alk K H n (.str z) (.str z)
  | tup {n : Nat} {a b : Addr} {xs ys : List V} (ha : SqT K H a xs) (hb : SqT K H b ys) (hl : xs.length ≤ 10000) (h : xs.length = ys.length) (e : ∀ (i : Nat) (x y : V), xs[i]? = some x → ys[i]? = some y → Alk K H n x y) : Alk K H (n + 1) (.ref a) (.ref b)
  | lst {n : Nat} {a b : Addr} {xs ys : List V} (ha : SqL K H a xs) (hb : SqL K H b ys) (hl : xs.length ≤ 10000) (h : xs.length = ys.length) (e : ∀ (i : Nat) (x y : V), xs[i]? = some x → ys[i]? = some y → Alk K H n x y) : Alk K H (n + 1) (.ref a) (.ref b)
theorem tyX_seqT {K : PySem.W.Frag} {H : Hp} {t : Addr} {xs : List V} (h : SqT K H t xs) : TyX K H (.ref t) (.type "tuple") := by
  rcases h with (h | ⟨o, h⟩) | h
  · exact .base (.tup h)
  · exact .fTuple h
  · obtain ⟨o, _, _, e, c, _⟩ := h
    exact .kTuple e c
theorem tyX_seqL {K : PySem.W.Frag} {H : Hp} {t : Addr} {xs : List V} (h : SqL K H t xs) : TyX K H (.ref t) (.type "list") := by
  rcases h with (h | ⟨o, h⟩) | h
  · exact .base (.lst h)
  · exact .base (.frz h)
  · obtain ⟨o, _, _, e, c, _⟩ := h
    exact .kList e c
/-- the builtins that it names -/
structure Txt4 (mg : Str → Option Value) : Prop where
  b_bool : mg "bool" = none
  b_str : mg "str" = none
  b_sum : mg "sum" = none
section
variable {P : Program} {w : World} {K : PySem.W.Frag} {mg : Str → Option Value} {base : Heap}
abbrev s__law_alike : Stmt := top 43
abbrev N__law_alike : List Str := ["_law_found", "_law_due_here", "_law_k"]
abbrev P__law_alike : List Str := ["_law_found", "_law_due_here"]
theorem sc__law_alike : FnScope N__law_alike P__law_alike (defScope s__law_alike) := ⟨rfl, rfl, rfl, by decide +kernel, rfl, by decide +kernel, by decide +kernel⟩
def spAlike (K : PySem.W.Frag) (n : Nat) : Sp := fun vs H Q _ => ∃ x y, vs = [x, y] ∧ ∃ m, m < n ∧ Alk K H m x y ∧ Q (.bl true) H
theorem ok_alikeS {n : Nat} (T : Txt mg) (T4 : Txt4 mg) (D : Df K mg "_law_alike" s__law_alike P__law_alike) (G_alike : Fn P w K mg base CX0 (1 + n) "_law_alike" P__law_alike (spAlike K n)) : Fn P w K mg base CX0 (1 + n + 1) "_law_alike" P__law_alike (spAlike K (n + 1)) := by
  refine D.ok sc__law_alike (fun vs H Q E h => ?_) (fun f cdv A outer s H vs Q E hr h => ?_)
  · obtain ⟨x, y, rfl, _⟩ := h
    rfl
  · obtain ⟨x, y, rfl, m, hm, hA, k⟩ := h
    have nd := sc__law_alike.nd
    refine ⟨_, (pss_cons (ps_if (pt_cmpR op_isN (pv 1) pe_non (nomark _))
  (pss_one (ps_ret (pe_cmpR op_isN (pv 0) pe_non (nomark _))))
  pss_nil)
  (pss_cons (ps_if (pt_val (pe_callB call_isi (by rfl) T.b_isinstance (by decide +kernel) (pa_cons (pv 1) (pa_cons (pe_bltn (v := .ty "bool") (by rfl) T4.b_bool (by decide +kernel) rfl) pa_nil))))
  (pss_one (ps_ret (pe_and (pe_callB call_isi (by rfl) T.b_isinstance (by decide +kernel) (pa_cons (pv 0) (pa_cons (pe_bltn (v := .ty "bool") (by rfl) T4.b_bool (by decide +kernel) rfl) pa_nil))) (pe_one (pe_cmpR op_eq (pv 0) (pv 1) (nomark _))))))
  pss_nil)
  (pss_cons (ps_if (pt_val (pe_callB call_isi (by rfl) T.b_isinstance (by decide +kernel) (pa_cons (pv 1) (pa_cons (pe_bltn (v := .ty "int") (by rfl) T.b_int (by decide +kernel) rfl) pa_nil))))
  (pss_one (ps_ret (pe_and (pe_callB call_isi (by rfl) T.b_isinstance (by decide +kernel) (pa_cons (pv 0) (pa_cons (pe_bltn (v := .ty "int") (by rfl) T.b_int (by decide +kernel) rfl) pa_nil))) (pe_and (pe_not (pe_callB call_isi (by rfl) T.b_isinstance (by decide +kernel) (pa_cons (pv 0) (pa_cons (pe_bltn (v := .ty "bool") (by rfl) T4.b_bool (by decide +kernel) rfl) pa_nil)))) (pe_one (pe_cmpR op_eq (pv 0) (pv 1) (nomark _)))))))
  pss_nil)
  (pss_cons (ps_if (pt_val (pe_callB call_isi (by rfl) T.b_isinstance (by decide +kernel) (pa_cons (pv 1) (pa_cons (pe_bltn (v := .ty "str") (by rfl) T4.b_str (by decide +kernel) rfl) pa_nil))))
  (pss_one (ps_ret (pe_and (pe_callB call_isi (by rfl) T.b_isinstance (by decide +kernel) (pa_cons (pv 0) (pa_cons (pe_bltn (v := .ty "str") (by rfl) T4.b_str (by decide +kernel) rfl) pa_nil))) (pe_one (pe_cmpR op_eq (pv 0) (pv 1) (nomark _))))))
  pss_nil)
  (pss_cons (ps_if (PW.pt (pw_or (pt_cmpR op_ne (pe_callB call_isi (by rfl) T.b_isinstance (by decide +kernel) (pa_cons (pv 1) (pa_cons (pe_bltn (v := .ty "tuple") (by rfl) T.b_tuple (by decide +kernel) rfl) pa_nil))) (pe_callB call_isi (by rfl) T.b_isinstance (by decide +kernel) (pa_cons (pv 0) (pa_cons (pe_bltn (v := .ty "tuple") (by rfl) T.b_tuple (by decide +kernel) rfl) pa_nil))) (nomark _)) (pw_or1 (pt_cmpR op_ne (pe_callB call_isi (by rfl) T.b_isinstance (by decide +kernel) (pa_cons (pv 1) (pa_cons (pe_bltn (v := .ty "list") (by rfl) T.b_list (by decide +kernel) rfl) pa_nil))) (pe_callB call_isi (by rfl) T.b_isinstance (by decide +kernel) (pa_cons (pv 0) (pa_cons (pe_bltn (v := .ty "list") (by rfl) T.b_list (by decide +kernel) rfl) pa_nil))) (nomark _)))))
  (pss_one (ps_ret pe_bl))
  pss_nil)
  (pss_cons (ps_if (pt_cmpR op_ne (pe_callB call_len_seq (by rfl) T.b_len (by decide +kernel) (pa_cons (pv 0) pa_nil)) (pe_callB call_len_seq (by rfl) T.b_len (by decide +kernel) (pa_cons (pv 1) pa_nil)) (nomark _))
  (pss_one (ps_ret pe_bl))
  pss_nil)
  (pss_cons (ps_for PassesOwn.never rfl (pi_range1 (by rfl) T.b_range (pa_cons (pe_callB call_len_seq (by rfl) T.b_len (by decide +kernel) (pa_cons (pv 1) pa_nil)) pa_nil)) (pg_name (i := 2) nd rfl (by first | exact Or.inl rfl | exact Or.inr rfl))
  (pss_one (ps_if (pt_not (pt_val (pe_c G_alike hr pass0 (pa_cons (pe_ix ix_seq (pv 0) (pv 2) (fun _ _ => rfl)) (pa_cons (pe_ix ix_seq (pv 1) (pv 2) (fun _ _ => rfl)) pa_nil)))))
  (pss_one (ps_ret pe_bl))
  pss_nil)))
  (pss_one (ps_ret pe_bl))))))))), ?_⟩
    cases hA with
    | non =>
      refine ⟨_, rfl, rfl, _, rfl, ?_⟩
      refine ite2 (fun _ => ?_) (fun c => absurd rfl c)
      exact ⟨_, rfl, rfl, k⟩
    | int i =>
      refine ⟨_, rfl, rfl, _, rfl, ?_⟩
      refine ite2 (fun c => nomatch (of_decide_eq_true c)) (fun _ => ?_)
      refine ⟨_, rfl, _, .ty "bool", .type "int", .type "bool", false, rfl, .ty _, .base (.int _), kit_ty (by decide +kernel), _, rfl, ite2 (fun c => Bool.noConfusion c) (fun _ => ?_)⟩
      refine ⟨_, rfl, _, .ty "int", .type "int", .type "int", true, rfl, .ty _, .base (.int _), kit_ty (by decide +kernel), _, rfl, ite2 (fun _ => ?_) (fun c => absurd rfl c)⟩
      refine ⟨_, rfl, _, .ty "int", .type "int", .type "int", true, rfl, .ty _, .base (.int _), kit_ty (by decide +kernel), _, rfl, ite2 (fun _ => ?_) (fun c => absurd rfl c)⟩
      refine ⟨_, rfl, _, .ty "bool", .type "int", .type "bool", false, rfl, .ty _, .base (.int _), kit_ty (by decide +kernel), _, rfl, _, rfl, ite2 (fun _ => ?_) (fun c => absurd rfl c)⟩
      refine ⟨_, rfl, _, rfl, rfl, ?_⟩
      have e : decide (V.int i = V.int i) = true := decide_eq_true rfl
      rw [e]
      exact k
    | bl b =>
      refine ⟨_, rfl, rfl, _, rfl, ?_⟩
      refine ite2 (fun c => nomatch (of_decide_eq_true c)) (fun _ => ?_)
      refine ⟨_, rfl, _, .ty "bool", .type "bool", .type "bool", true, rfl, .ty _, .base (.bl _), kit_ty (by decide +kernel), _, rfl, ite2 (fun _ => ?_) (fun c => absurd rfl c)⟩
      refine ⟨_, rfl, _, .ty "bool", .type "bool", .type "bool", true, rfl, .ty _, .base (.bl _), kit_ty (by decide +kernel), _, rfl, ite2 (fun _ => ?_) (fun c => absurd rfl c)⟩
      refine ⟨_, rfl, _, rfl, rfl, ?_⟩
      have e : decide (V.bl b = V.bl b) = true := decide_eq_true rfl
      rw [e]
      exact k
    | str z =>
      refine ⟨_, rfl, rfl, _, rfl, ?_⟩
      refine ite2 (fun c => nomatch (of_decide_eq_true c)) (fun _ => ?_)
      refine ⟨_, rfl, _, .ty "bool", .type "str", .type "bool", false, rfl, .ty _, .base (.str _), kit_ty (by decide +kernel), _, rfl, ite2 (fun c => Bool.noConfusion c) (fun _ => ?_)⟩
      refine ⟨_, rfl, _, .ty "int", .type "str", .type "int", false, rfl, .ty _, .base (.str _), kit_ty (by decide +kernel), _, rfl, ite2 (fun c => Bool.noConfusion c) (fun _ => ?_)⟩
      refine ⟨_, rfl, _, .ty "str", .type "str", .type "str", true, rfl, .ty _, .base (.str _), kit_ty (by decide +kernel), _, rfl, ite2 (fun _ => ?_) (fun c => absurd rfl c)⟩
      refine ⟨_, rfl, _, .ty "str", .type "str", .type "str", true, rfl, .ty _, .base (.str _), kit_ty (by decide +kernel), _, rfl, ite2 (fun _ => ?_) (fun c => absurd rfl c)⟩
      refine ⟨_, rfl, _, rfl, rfl, ?_⟩
      have e : decide (V.str z = V.str z) = true := decide_eq_true rfl
      rw [e]
      exact k
    | @tup m a b xs ys ha hb hl hlen e =>
      refine ⟨_, rfl, rfl, _, rfl, ?_⟩
      refine ite2 (fun c => nomatch (of_decide_eq_true c)) (fun _ => ?_)
      refine ⟨_, rfl, _, .ty "bool", .type "tuple", .type "bool", false, rfl, .ty _, tyX_seqT hb, kit_ty (by decide +kernel), _, rfl, ite2 (fun c => Bool.noConfusion c) (fun _ => ?_)⟩
      refine ⟨_, rfl, _, .ty "int", .type "tuple", .type "int", false, rfl, .ty _, tyX_seqT hb, kit_ty (by decide +kernel), _, rfl, ite2 (fun c => Bool.noConfusion c) (fun _ => ?_)⟩
      refine ⟨_, rfl, _, .ty "str", .type "tuple", .type "str", false, rfl, .ty _, tyX_seqT hb, kit_ty (by decide +kernel), _, rfl, ite2 (fun c => Bool.noConfusion c) (fun _ => ?_)⟩
      refine ⟨_, rfl, _, .ty "tuple", .type "tuple", .type "tuple", true, rfl, .ty _, tyX_seqT hb, kit_ty (by decide +kernel), ?_⟩
      refine ⟨_, rfl, _, .ty "tuple", .type "tuple", .type "tuple", true, rfl, .ty _, tyX_seqT ha, kit_ty (by decide +kernel), rfl, _, rfl, ?_⟩
      refine ite2 (fun c => Bool.noConfusion (show false = true from c)) (fun _ => ?_)
      refine ⟨_, rfl, _, .ty "list", .type "tuple", .type "list", false, rfl, .ty _, tyX_seqT hb, kit_ty (by decide +kernel), ?_⟩
      refine ⟨_, rfl, _, .ty "list", .type "tuple", .type "list", false, rfl, .ty _, tyX_seqT ha, kit_ty (by decide +kernel), rfl, _, rfl, ?_⟩
      refine ite2 (fun c => Bool.noConfusion (show false = true from c)) (fun _ => ?_)
      refine ⟨_, rfl, a, xs, rfl, .inr ha, _, rfl, b, ys, rfl, .inr hb, rfl, _, rfl, ?_⟩
      rw [hlen, decide_eq_true (rfl : V.int (ys.length : Nat) = V.int (ys.length : Nat))]
      refine ite2 (fun c => Bool.noConfusion (show false = true from c)) (fun _ => ?_)
      refine ⟨_, rfl, b, ys, rfl, .inr hb, (ys.length : Nat), rfl, by omega, by omega, ?_⟩
      have en : ((ys.length : Nat) : Int).toNat = ys.length := Int.toNat_natCast _
      rw [en]
      refine for_it (walk_range (lo := 0)) (fun i σ H' => ∃ v, σ = [some (.ref a), some (.ref b), v] ∧ H' = H) ⟨none, rfl, rfl⟩ (fun _ _ _ _ _ => True.intro) ?_ ?_
      · rintro i x σ H1 H1' hi ⟨v, rfl, rfl⟩ ⟨rfl, rfl⟩
        have hx : xs[i]? = some (xs[i]'(by omega)) := List.getElem?_eq_getElem (by omega)
        have hy : ys[i]? = some ys[i] := List.getElem?_eq_getElem hi
        refine ⟨_, rfl, _, rfl, (.inr (.inl ⟨a, xs, _, _, rfl, rfl, ha, at_of (j := i) (by omega) hx, _, rfl, _, rfl, (.inr (.inl ⟨b, ys, _, _, rfl, rfl, hb, at_of (j := i) (by omega) hy, _, _, rfl, m, by omega, e i _ _ hx hy, ?_⟩))⟩))⟩
        refine ⟨_, rfl, ite2 (fun c => Bool.noConfusion (show false = true from c)) (fun _ => ⟨_, rfl, rfl⟩)⟩
      · rintro σ H1 ⟨v, rfl, rfl⟩
        exact k
    | @lst m a b xs ys ha hb hl hlen e =>
      refine ⟨_, rfl, rfl, _, rfl, ?_⟩
      refine ite2 (fun c => nomatch (of_decide_eq_true c)) (fun _ => ?_)
      refine ⟨_, rfl, _, .ty "bool", .type "list", .type "bool", false, rfl, .ty _, tyX_seqL hb, kit_ty (by decide +kernel), _, rfl, ite2 (fun c => Bool.noConfusion c) (fun _ => ?_)⟩
      refine ⟨_, rfl, _, .ty "int", .type "list", .type "int", false, rfl, .ty _, tyX_seqL hb, kit_ty (by decide +kernel), _, rfl, ite2 (fun c => Bool.noConfusion c) (fun _ => ?_)⟩
      refine ⟨_, rfl, _, .ty "str", .type "list", .type "str", false, rfl, .ty _, tyX_seqL hb, kit_ty (by decide +kernel), _, rfl, ite2 (fun c => Bool.noConfusion c) (fun _ => ?_)⟩
      refine ⟨_, rfl, _, .ty "tuple", .type "list", .type "tuple", false, rfl, .ty _, tyX_seqL hb, kit_ty (by decide +kernel), ?_⟩
      refine ⟨_, rfl, _, .ty "tuple", .type "list", .type "tuple", false, rfl, .ty _, tyX_seqL ha, kit_ty (by decide +kernel), rfl, _, rfl, ?_⟩
      refine ite2 (fun c => Bool.noConfusion (show false = true from c)) (fun _ => ?_)
      refine ⟨_, rfl, _, .ty "list", .type "list", .type "list", true, rfl, .ty _, tyX_seqL hb, kit_ty (by decide +kernel), ?_⟩
      refine ⟨_, rfl, _, .ty "list", .type "list", .type "list", true, rfl, .ty _, tyX_seqL ha, kit_ty (by decide +kernel), rfl, _, rfl, ?_⟩
      refine ite2 (fun c => Bool.noConfusion (show false = true from c)) (fun _ => ?_)
      refine ⟨_, rfl, a, xs, rfl, .inl ha, _, rfl, b, ys, rfl, .inl hb, rfl, _, rfl, ?_⟩
      rw [hlen, decide_eq_true (rfl : V.int (ys.length : Nat) = V.int (ys.length : Nat))]
      refine ite2 (fun c => Bool.noConfusion (show false = true from c)) (fun _ => ?_)
      refine ⟨_, rfl, b, ys, rfl, .inl hb, (ys.length : Nat), rfl, by omega, by omega, ?_⟩
      have en : ((ys.length : Nat) : Int).toNat = ys.length := Int.toNat_natCast _
      rw [en]
      refine for_it (walk_range (lo := 0)) (fun i σ H' => ∃ v, σ = [some (.ref a), some (.ref b), v] ∧ H' = H) ⟨none, rfl, rfl⟩ (fun _ _ _ _ _ => True.intro) ?_ ?_
      · rintro i x σ H1 H1' hi ⟨v, rfl, rfl⟩ ⟨rfl, rfl⟩
        have hx : xs[i]? = some (xs[i]'(by omega)) := List.getElem?_eq_getElem (by omega)
        have hy : ys[i]? = some ys[i] := List.getElem?_eq_getElem hi
        refine ⟨_, rfl, _, rfl, (.inl ⟨a, xs, _, _, rfl, rfl, ha, at_of (j := i) (by omega) hx, _, rfl, _, rfl, (.inl ⟨b, ys, _, _, rfl, rfl, hb, at_of (j := i) (by omega) hy, _, _, rfl, m, by omega, e i _ _ hx hy, ?_⟩)⟩)⟩
        refine ⟨_, rfl, ite2 (fun c => Bool.noConfusion (show false = true from c)) (fun _ => ⟨_, rfl, rfl⟩)⟩
      · rintro σ H1 ⟨v, rfl, rfl⟩
        exact k
theorem ok_alike0 (D : Df K mg "_law_alike" s__law_alike P__law_alike) : Fn P w K mg base CX0 1 "_law_alike" P__law_alike (spAlike K 0) := by
  obtain ⟨f, fd, F, hm, hb⟩ := D.ex
  refine ⟨f, fd, ⟨fun vs H Q E h => ?_, fun A outer s H args us vs Q E _ _ _ _ h => ?_⟩, hm, F.kp, hb⟩
  · obtain ⟨x, y, _, m, h, _⟩ := h
    exact absurd h (Nat.not_lt_zero _)
  · obtain ⟨x, y, _, m, h, _⟩ := h
    exact absurd h (Nat.not_lt_zero _)
theorem ok_alike (T : Txt mg) (T4 : Txt4 mg) (D : Df K mg "_law_alike" s__law_alike P__law_alike) : ∀ n, Fn P w K mg base CX0 (1 + n) "_law_alike" P__law_alike (spAlike K n)
  | 0 => ok_alike0 D
  | n + 1 => ok_alikeS T T4 D (ok_alike T T4 D n)
end
end K3

set_option Elab.async false
set_option linter.all false
set_option maxRecDepth 100000
set_option maxHeartbeats 4000000
/-! KX: defs called while an exception is handled, isinstance of it, its fields; a lambda handed to a def that tells refusals -/
namespace K3
open PySem PySem.Spec PyProof.Rows L2
/-! ### defs called while an exception is handled: their promise knows which -/
structure FnP (P : Program) (w : World) (K : PySem.W.Frag) (mg : Str → Option Value) (base : Heap) (CX : CXT) (k : Nat) (f : Addr) (fd : FuncData) (ps : List Str) (sp : Addr × Obj → Sp) : Prop where
  len : ∀ p vs H Q E, sp p vs H Q E → vs.length = ps.length
  run : ∀ (A : Around) (outer : List Env) (s : Shared) (H : Hp) (args : Args) (us : List Value) (vs : List V) (Q : VK) (E : XK) (p : Addr × Obj), L2H.RoomH k A → L2H.PinOk outer H s p → Env0 P w K mg base A outer s H → BindsTo s fd args (ps.zip us) → Vals vs us → sp p vs H Q E →
    codeAny (model P w) A (.call (.ref f) args) (CR CX outer P w H s Q E) s
/-- .. by its name -/
structure Fnp (P : Program) (w : World) (K : PySem.W.Frag) (mg : Str → Option Value) (base : Heap) (CX : CXT) (k : Nat) (x : Str) (ps : List Str) (sp : Addr × Obj → Sp) : Prop where
  ex : ∃ (f : Addr) (fd : FuncData), FnP P w K mg base CX k f fd ps sp ∧ mg x = some (.ref f) ∧ PySem.W.keepIn K (.ref f) = true ∧ Binds K fd ps []
section
variable {P : Program} {w : World} {K : PySem.W.Frag} {mg : Str → Option Value} {base : Heap}
theorem Df.okP {CX : CXT} {x : Str} {st : Stmt} {N ps : List Str} {k : Nat} {sp : Addr × Obj → Sp} (D : Df K mg x st ps) (S : FnScope N ps (defScope st)) (len : ∀ p vs H Q E, sp p vs H Q E → vs.length = ps.length)
    (hbody : ∀ (f : Addr) (cdv : Value) (A : Around) (outer : List Env) (s : Shared) (H : Hp) (vs : List V) (Q : VK) (E : XK) (p : Addr × Obj), L2H.RoomH k (A.deeper (envOfC x (defScope st) s.heap.objs.size f cdv)) → sp p vs H Q E →
      ∃ t, PSs (L2H.cxH CX P w K mg base N x (defScope st) f cdv A outer s H E p) (defBody st) t ∧ t { nx := fun _ H' => Q .non H', rt := Q } (start N vs) H) : Fnp P w K mg base CX (k + 1) x ps sp := by
  obtain ⟨f, fd, F, hm, hb⟩ := D.ex
  refine ⟨f, fd, ⟨len, fun A outer s H args us vs Q E p hr hpin e0 hbt r hsp => ?_⟩, hm, F.kp, hb⟩
  obtain ⟨oc, od, dV, kV, doc, pm, an, cdv, ct, osl, rfl, lk, hcd, _, _⟩ := F.ex
  have hl := len _ _ _ _ _ hsp
  have KX : K.In s.heap := e0.mod.kin.keeps fun b o e => (e0.bs b o e).1
  have lim : s.heap.NoLimit := e0.mod.nolimit.keeps fun b o e => (e0.bs b o e).1
  have hkind : ∀ y ∈ ps.zip us, (defScope st).names.lookup y.1 = some .local ∨ ((defScope st).names.lookup y.1 = some .cell ∧ ((cellsFrom (s.heap.objs.size + 1) (defScope st).names []).lookup y.1).isSome = true) := fun ⟨n, v⟩ hy => by
    rcases S.par n (List.of_mem_zip hy).1 with q | q
    · exact .inl q
    · exact .inr ⟨q, PySem.W.cellsFrom_some _ _ _ (.inl q)⟩
  refine codeAny_call_function hr.depth (KX _ _ lk) rfl S.co S.gen rfl (PySem.W.codeRec_of KX hcd) (hbt _ _ _ _ ?_)
  refine wpAny_newFunctionEnv_cells S.kind hkind fun env he s1 xc => ?_
  subst he
  refine ⟨lim.keeps xc.toInCall.keep, codeAny_func ?_⟩
  obtain ⟨t, ht, hq⟩ := hbody f cdv A outer s H vs Q E p (hr.deeper _) hsp
  have I : Inv (L2H.cxH CX P w K mg base N x (defScope st) f cdv A outer s H E p) [] (L2.start N vs) H s1 := L2H.inv_startH S hpin e0 hl r xc
  refine wpAny_mono (ht.run [] s1 (L2.start N vs) H _ I hq) (fun fl s' hs => ?_) fun e s' hs => hs
  have fin : ∀ {σ' : L2.St} {H' : Hp} {v : V} {u : Value}, Inv (L2H.cxH CX P w K mg base N x (defScope st) f cdv A outer s H E p) [] σ' H' s' → RelV v u → Q v H' → CE outer P w H s Q u s' :=
    fun {σ' H' v u} J rv q => ⟨v, H', J.os, J.bare, J.base, J.hok, rv, q⟩
  cases fl with
  | ret u =>
    obtain ⟨v, σ', H', J, rv, q⟩ := hs
    exact fin J rv q
  | next =>
    obtain ⟨σ', H', J, q⟩ := hs
    exact fin (v := V.non) (u := Value.none) J rfl q
  | brk =>
    obtain ⟨_, _, _, q⟩ := hs
    exact False.elim q
  | cont =>
    obtain ⟨_, _, _, q⟩ := hs
    exact False.elim q
end
section
variable {X : Cx} {CX : CXT} {k : Nat} {ps : List Str} {sp : Addr × Obj → Sp} {E : L2.St → XK} {x : Str} {q pos : Pos} {e : Expr} {es : List Expr} {t : TA} {p : Addr × Obj}
/-- a call of such a def, where p is pinned -/
theorem pe_cP (F : Fnp X.prog X.w X.K X.mg X.base CX k x ps sp) (hr : L2H.RoomH k X.A) (hp : p ∈ X.pn) (hx : ∀ σ, PassesAt CX X σ (E σ)) (ha : PA X (e :: es) t) (hg : Gl X x := by rfl)
    (hdb : (x == ("__debug__" : Str)) = false := by decide) (he : starEach (e :: es) X.env = (false, eval e X.env) :: starEach es X.env := by rfl) (hpl : (backTo pos (starEach es X.env)).any (·.1) = false := by rfl) :
    PE X (.Call (.Name x q) (e :: es) [] pos) (tCallS (sp p) E t) := by
  obtain ⟨f, fd, G, hm, hk, hb⟩ := F.ex
  refine ⟨fun pins s σ H Q I h => ?_⟩
  refine wpAny_Call_Name_kw (ld_glob I hg hm ?_ hdb)
  refine PySem.W.callWith_K (h₀ := X.base) I.ok.mod.kin hk (thn (ha.run pos pins s σ H _ I h) fun us s1 ⟨vs, H1, I1, r, hq⟩ => ⟨I1.kIn, ?_⟩) he hpl
  have hl : us.length = ps.length := by rw [← r.length]; exact G.len _ _ _ _ _ hq
  have b := hb s1 us I1.kIn (by rw [List.append_nil]; exact hl)
  rw [List.append_nil] at b
  have P1 := I1.pin p (List.mem_append_left _ hp)
  have hpin : L2H.PinOk X.stack H1 s1 p := ⟨P1.1, P1.2.1, fun hm => (List.mem_cons.mp (I1.stkSub p.1 hm)).elim P1.2.2.1 P1.2.2.2.1, P1.2.2.2.2⟩
  refine wpAny_call (codeAny_mono (G.run X.A X.stack s1 H1 ⟨us, []⟩ us vs Q (E σ) p hr hpin I1.env0 b r hq) fun r s' hq => ?_)
  cases r with
  | error e => exact hx σ pins H1 s1 e s' I1 hq
  | ok fl =>
    cases fl with
    | ret u => exact I1.after hq
    | next => exact False.elim hq
    | brk => exact False.elim hq
    | cont => exact False.elim hq
end
/-! ### isinstance(e, c), e pinned -/
def rIsP (K : PySem.W.Frag) (D a : Addr) (d : Option Addr) : List V → Hp → VK → Prop := fun xs H Q => ∃ (c : V) (cv : Value) (b : Bool), xs = [.ref a, c] ∧ (∀ u, RelV c u → u = cv) ∧ PySem.W.kitOne K (.ref D) cv = some b ∧ (∀ dd, d = some dd → ∃ fs, H dd = some (.xd fs)) ∧ Q (.bl b) H
theorem call_isP {X : Cx} {a D : Addr} {oe : Obj} {d : Option Addr} (hp : (a, oe) ∈ X.pn) (C : L2.ExcC X.K D) (hz : Zc (.ref D) d oe) (hf : ∃ vs, oe.data = .fields vs) : CallR X (.builtin "isinstance") (rIsP X.K D a d) := by
  intro pins s σ H xs us Q I r h
  obtain ⟨c, cv, b, rfl, hcv, e, hd, q⟩ := h
  cases r with
  | cons rx rr =>
    cases rr with
    | cons rt rr =>
      cases rr
      cases rx
      have ec := hcv _ rt
      subst ec
      obtain ⟨hget, _⟩ := I.pin (a, oe) (List.mem_append.mpr (.inl hp))
      obtain ⟨vs, hv⟩ := hf
      have J : ∃ od, PySem.W.InstAt s.heap a oe D od := by
        obtain ⟨oc, odd, oda, osl⟩ := oe
        obtain ⟨h1, h2⟩ := hz
        dsimp only at h1 h2 hv
        subst h1 h2 hv
        cases odd with
        | none => exact ⟨none, hget, rfl, rfl, trivial⟩
        | some dd =>
          obtain ⟨fs, hfs⟩ := hd dd rfl
          have hx : ObjOk X.prog X.w H s.heap dd (.xd fs) := I.hok dd _ hfs
          obtain ⟨mA, hns, hr⟩ := hx
          obtain ⟨o, ho, _⟩ := lookIn_ns hns
          exact ⟨some o, hget, rfl, rfl, ho⟩
      obtain ⟨od, J⟩ := J
      have hcl : (PySem.W.clsIn X.K D).isSome = true := by
        obtain ⟨cd, hc, _⟩ := PySem.W.any_some C.hd
        rw [hc]
        rfl
      exact PySem.W.kia_one (PySem.W.kitx_exc (od := od) hcl C.hg C.hk C.hs C.ha C.hn C.ht C.hm) I.kIn J e (fun z => nomatch z) fun tk => ⟨.bl b, H, I.kept (t' := tk) fun _ _ z => z, rfl, q⟩
/-! ### list.count of flat values -/
def rCntV (K : PySem.W.Frag) : V → List V → Hp → VK → Prop := fun x xs H Q => ∃ (p : Addr) (ys : List V) (y : V), x = .ref p ∧ xs = [y] ∧ SqL K H p ys ∧ flatV y = true ∧ ys.all flatV = true ∧ Q (.int ((ys.countP fun z => eqV z y : Nat) : Int)) H
theorem countV {y : V} : ∀ {ys : List V} {us : List Value}, Vals ys us → ys.all flatV = true → us.countP (eqU y) = ys.countP fun z => eqV z y
  | _, _, .nil, _ => rfl
  | z :: ys, u :: us, .cons r t, f => by
    rw [List.all_cons, Bool.and_eq_true] at f
    have ih := countV (y := y) t f.2
    rw [List.countP_cons, List.countP_cons, ih, eqU_of r f.1]
theorem mt_lcountV {X : Cx} : MtR X "list.count" (rCntV X.K) := by
  intro pins s σ H x xs v us Q I rx rxs h
  obtain ⟨p, ys, y, rfl, rfl, hs, fy, fys, q⟩ := h
  cases rx
  cases rxs with
  | cons ry rt =>
    rename_i uy ut
    cases rt
    obtain ⟨its, rv, ⟨⟨cls, dd, data, sl⟩, n, ho, hc, hdn, hd⟩, hlen⟩ := I.list hs
    simp only at hc hd
    subst hc hd
    refine call_meets PySem.F.slot_list_count ⟨_, ho, rfl⟩ PySem.F.entry_list_count (PySem.F.args_list_count_2 _ _)
      (SeqAt.list_countAt p its.toArray n dd sl uy (eqU y)) ⟨ho, fun u hu => mem_eqAt ry fy rv fys u (by simpa using hu), ?_⟩
    have ec : its.toArray.toList.countP (eqU y) = ys.countP fun z => eqV z y := countV rv fys
    refine ⟨.int ((ys.countP fun z => eqV z y : Nat) : Int), H, I.tok _, ⟨s.toks, ?_⟩, q⟩
    show Value.int ((its.toArray.toList.countP (eqU y) : Nat) : Int) s.toks = Value.int ((ys.countP fun z => eqV z y : Nat) : Int) s.toks
    rw [ec]
/-! ### e.f in an except suite, whichever class it is -/
def tXfA (K : PySem.W.Frag) (a : Addr) (cls : Value) (d : Option Addr) (f : Str) (te : TE) : TE := fun σ H Q => te σ H fun x H1 => x = .ref a ∧ ∃ (C dd : Addr) (fs : List (Str × V)) (v : V), XfC K C ∧ PySem.W.findIn K (.ref C) f = some none ∧ cls = .ref C ∧ d = some dd ∧ H1 dd = some (.xd fs) ∧ fs.lookup f = some v ∧ Q v H1
theorem pe_xfA {X : Cx} {a : Addr} {oe : Obj} {cls : Value} {d : Option Addr} {pn : List (Addr × Obj)} {e : Expr} {te : TE} {pos : Pos} {n : Str}
    (hz : Zc cls d oe) (hf : ∃ vs, oe.data = .fields vs) (he : PE (X.suite a ((a, oe) :: pn)) e te) (hb : attributeBase e n X.env (eval e X.env) = eval e X.env := by rfl) :
    PE (X.suite a ((a, oe) :: pn)) (.Attribute e n pos) (tXfA X.K a cls d n te) := by
  refine ⟨fun pins s σ H Q I h => ?_⟩
  refine attr_of hb (thn (he.run pins s σ H _ I h) fun u s1 hh => ?_)
  obtain ⟨x, H1, I1, rx, ex, C, dd, fs, v, T, hno, ec, ed, ea, l, q⟩ := hh
  subst ex
  obtain rfl : u = Value.ref a := rx
  subst ec
  subst ed
  obtain ⟨ha, _⟩ := I1.pin (a, oe) (List.mem_append_left _ List.mem_cons_self)
  obtain ⟨vs, hd⟩ := hf
  have hx : ObjOk X.prog X.w H1 s1.heap dd (.xd fs) := I1.hok dd _ ea
  obtain ⟨mA, hns, hr⟩ := hx
  obtain ⟨od, ho, hl⟩ := lookIn_ns hns
  obtain ⟨u, hu, ru⟩ := RelO.some_of (v := v) (o := mA n) (by rw [← l]; exact hr n)
  have J : PySem.W.InstAt s1.heap a oe C (some od) := ⟨ha, hz.1, by unfold PySem.W.notCls; rw [hd] <;> rfl, by rw [hz.2]; exact ho⟩
  exact HandSPX.exc_get I1.kIn J T.ga T.gg T.exC (PySem.W.findObj_own T.hdC hno rfl (by rw [hl, hu])) (handed_of ru) ⟨v, H1, I1.tok _, ru, q⟩
/-! ### x(lambda: body), x a def that calls what it got -/
section
variable {X : Cx} {pins : List (Addr × Obj)} {σ : L2.St} {H HZ : Hp} {s s1 : Shared}
/-- x(), in the def that got the lambda; what it lets out is what is wished at the slots there -/
theorem pe_actS {CXg : CXT} {Eg : XK} {Ng : List Str} {qg : Str} {sg : Scope} {g f c' : Addr} {cdg pm ctv : Value} {params : Arguments} {body : Expr} {scope : Scope} {k i : Nat} {a : Str} {pn : List (Addr × Obj)} {xe : Value → Shared → Prop} {W : WX} {tb : XK → TE} {p1 p2 : Pos}
    (I : Inv X pins σ H s) (L : LamX.LamS X.env.scope scope) (hf : s.heap.get? f = some (PySem.W.kla_obj "<lambda>" (X.env.qual ++ "<lambda>") params body scope (cloFrom X.env.cells scope.names []) pm c' ctv)) (hfn : H f = none) (hfr : f ∉ frs X.stack)
    (hbind : bindArgs (PySem.W.kla_fn "<lambda>" (X.env.qual ++ "<lambda>") params body scope (cloFrom X.env.cells scope.names []) pm (.ref c') ctv) ⟨[], []⟩ = pure [])
    (tk : Takes ((cxOf CXg X.prog X.w X.K X.mg X.base Ng qg sg g cdg X.A X.stack s H Eg).tr pn xe) W) (hr : Room (k + 1) (X.A.deeper (envOfC qg sg s.heap.objs.size g cdg)))
    (hbody : ∀ (A : Around) (outer : List Env) (s : Shared) (H : Hp) (E : XK), Room k (A.deeper (LamX.lamEnv X scope s.heap.objs.size f c')) → PE (LamX.lamCx X A outer s H E scope f c') body (tb E))
    (hN : Ng[i]? = some a) (hv : Vis sg a) (hd : (a == ("__debug__" : Str)) = false := by decide) (hcd : (a == ("__classdict__" : Str)) = false := by decide) :
    PE ((cxOf CXg X.prog X.w X.K X.mg X.base Ng qg sg g cdg X.A X.stack s H Eg).tr pn xe) (.Call (.Name a p1) [] [] p2)
      (fun σZ HZ Q => σZ[i]? = some (some (.ref f)) ∧ HZ c' = some (LamX.CodeO c' (X.env.qual ++ "<lambda>")) ∧ tb (WE W σZ) σ HZ Q) := by
  refine ⟨fun pinsZ sZ σZ HZ Q IZ h => ?_⟩
  obtain ⟨hs, hc, ht⟩ := h
  refine wpAny_Call_Name_kw (thn ((pe_var (pos := p1) (i := i) hN hv hd hcd).run pinsZ sZ σZ HZ (fun v H1 => v = .ref f ∧ H1 = HZ) IZ ⟨.ref f, hs, rfl, rfl⟩) fun u s1 ⟨v, H1, I1, r1, q1⟩ => ?_)
  obtain ⟨ev, eH⟩ := q1
  subst ev
  rw [eH] at I1
  obtain rfl : u = Value.ref f := r1
  have of1 : s1.heap.get? f = some (PySem.W.kla_obj "<lambda>" (X.env.qual ++ "<lambda>") params body scope (cloFrom X.env.cells scope.names []) pm c' ctv) := I1.base.keep f _ hf hfn hfr (fun z => nomatch (show f ∈ ([] : List Addr) from z))
  refine PySem.W.callWith_F0 ⟨_, _, _, _, of1⟩ ?_
  have un : Un (frs X.stack) [] H HZ s.heap s1.heap := I1.base
  obtain ⟨⟨oc, vs, t, hoc, hdc, hvc⟩, _, _⟩ := I1.hok c' _ hc
  have rc : codeAny (model X.prog X.w) (X.A.deeper (envOfC qg sg s.heap.objs.size g cdg)) (.call (.ref f) ⟨[], []⟩) (CR (L2.CX X.prog X.w) (envOfC qg sg s.heap.objs.size g cdg :: X.stack) X.prog X.w HZ s1 Q (WE W σZ)) s1 := by
    refine PySem.W.kla_callFunE hr.depth of1 rfl L.co L.gen rfl ⟨c', oc, vs, t, rfl, hoc, hdc, hvc⟩ ?_
    rw [hbind]
    refine wpAny_pure (wpAny_newFunctionEnv (fun y hy => (L.own y hy).2) (fun y hy => absurd hy (by simp)) (fun h₁ hns hsb => ⟨I1.nolimit.fresh _ hsb, ?_⟩) L.kind)
    show codeAny _ _ (.expr body (LamX.lamEnv X scope s1.heap.objs.size f c')) _ _
    have kp : ∀ b o, s1.heap.get? b = some o → h₁.get? b = some o := fun b o e => hsb.extBut b o (Nat.ne_of_lt (Heap.lt_size e)) (Heap.get?_push_of_some _ e)
    have J : Inv (LamX.lamCx X (X.A.deeper (envOfC qg sg s.heap.objs.size g cdg)) (envOfC qg sg s.heap.objs.size g cdg :: X.stack) s1 HZ (WE W σZ) scope f c') [] σ HZ { s1 with heap := h₁, toks := s1.toks + ([] : List (Str × Value)).length } :=
      LamX.lam_start2 I L I1.env0 hr.hd un hns kp
    refine PySem.W.kla_codeExpr (wpAny_mono ((hbody _ _ s1 HZ (WE W σZ) (hr.deeper _)).run [] _ _ HZ Q J ht) (fun v s' hq => ?_) fun e s' hq => hq)
    obtain ⟨w', H', J', rv, q⟩ := hq
    exact ⟨w', H', J'.os, J'.bare, J'.base, J'.hok, rv, q⟩
  have hx : PassesAt (L2.CX X.prog X.w) ((cxOf CXg X.prog X.w X.K X.mg X.base Ng qg sg g cdg X.A X.stack s H Eg).tr pn xe) σZ (WE W σZ) := passAt tk σZ
  refine wpAny_call (codeAny_mono rc fun r s' hq => ?_)
  cases r with
  | error e => exact hx pinsZ HZ s1 e s' I1 hq
  | ok fl =>
    cases fl with
    | ret u => exact I1.after hq
    | next => exact False.elim hq
    | brk => exact False.elim hq
    | cont => exact False.elim hq
end

def GivesR (X : Cx) (Ng : List Str) (x : Str) (sg : Scope) (g : Addr) (cdg : Value) (bg : List Stmt) (a : Str) (q : Str) (k : Nat) (TT : (XK → Hp → VK → Prop) → Hp → VK → Prop) : Prop :=
  ∀ (f c' : Addr) (s : Shared) (H : Hp) (Q : VK) (tl : XK → Hp → VK → Prop), Room k (X.A.deeper (envOfC x sg s.heap.objs.size g cdg)) →
    (∀ (W : WX) (pn : List (Addr × Obj)) (xe : Value → Shared → Prop) (p1 p2 : Pos), Takes ((cxOf C8.CX0 X.prog X.w X.K X.mg X.base Ng x sg g cdg X.A X.stack s H C8.E0).tr pn xe) W →
      PE ((cxOf C8.CX0 X.prog X.w X.K X.mg X.base Ng x sg g cdg X.A X.stack s H C8.E0).tr pn xe) (.Call (.Name a p1) [] [] p2) (fun σZ HZ Q => σZ[0]? = some (some (.ref f)) ∧ HZ c' = some (LamX.CodeO c' q) ∧ tl (WE W σZ) HZ Q)) →
    H c' = some (LamX.CodeO c' q) → TT tl H Q →
    ∃ t, PSs (cxOf C8.CX0 X.prog X.w X.K X.mg X.base Ng x sg g cdg X.A X.stack s H C8.E0).nox bg t ∧ t { nx := fun _ H' => Q .non H', rt := Q } (L2.start Ng [.ref f]) H
section
variable {X : Cx}
theorem pe_lamR {T : List (Addr × Str)} {TT : (XK → Hp → VK → Prop) → Hp → VK → Prop} {x a : Str} {g c P : Addr} {k : Nat} {pg : Arguments} {bg : List Stmt} {sg : Scope} {dV kV doc pm cdv ct oc : Value} {an od : Option Addr} {osl : Array (Option Value)} {Ng : List Str}
    {params : Arguments} {body : Expr} {scope : Scope} {t : XK → TE} {p lpos pos : Pos} (hg : Gl X x) (hm : X.mg x = some (.ref g)) (hk : PySem.W.keepIn X.K (.ref g) = true)
    (lk : X.K.lookup g = some ⟨oc, od, .func (PySem.W.fnOf x x pg bg sg dV kV doc pm an cdv ct), osl⟩) (hcg : PySem.W.codeIn X.K cdv x = true) (hb : L2.Binds X.K (PySem.W.fnOf x x pg bg sg dV kV doc pm an cdv ct) [a] []) (Sg : FnScope Ng [a] sg) (hNg : Ng[0]? = some a) (hva : Vis sg a)
    (hG : GivesR X Ng x sg g cdv bg a (X.env.qual ++ "<lambda>") (k + 1) TT)
    (TB : LamX.TabB X.base X.mg c P) (hcode : X.env.code = .ref c) (hmT : (P, X.env.qual ++ "<lambda>") ∈ T) (hu : ∀ p ∈ T, p.1 = P → p.2 = X.env.qual ++ "<lambda>") (hr : Room (k + 2) X.A) (L : LamX.LamS X.env.scope scope) (hdef : defaultsOf params X.env = ([], []))
    (hbind : ∀ (q : Str) (cl : List (Str × Addr)) (pm cv ctv : Value), bindArgs (PySem.W.kla_fn "<lambda>" q params body scope cl pm cv ctv) ⟨[], []⟩ = pure [])
    (hbody : ∀ (A : Around) (outer : List Env) (s : Shared) (H : Hp) (E : XK) (f c' : Addr), Room k (A.deeper (LamX.lamEnv X scope s.heap.objs.size f c')) → PE (LamX.lamCx X A outer s H E scope f c') body (t E))
    (hdb : (x == ("__debug__" : Str)) = false := by decide) (hd : (a == ("__debug__" : Str)) = false := by decide) (hcd : (a == ("__classdict__" : Str)) = false := by decide) :
    PE X (.Call (.Name x p) [.Lambda params body scope lpos] [] pos) (LamX.tLam T TT t) := by
  refine ⟨fun pins s σ H Q I h => ?_⟩
  obtain ⟨hT, h⟩ := h
  refine wpAny_Call_Name_kw (ld_glob I hg hm ?_ hdb)
  refine PySem.W.callWith_K (h₀ := X.base) I.ok.mod.kin hk ?_ (by rfl) (by rfl)
  show wpAny _ _ (spliced ((false, eval (.Lambda params body scope lpos) X.env) :: backTo pos (starEach [] X.env))) _ _ s
  refine Calls.spliced_cons (LamX.lam_make2 I TB hcode hmT hu hT hdef (L.has I.ok) fun f c' pm' ctv H1 s' I1 eN T1 hf hfn hfr hco => ?_)
  refine Calls.spliced_nil ⟨I1.kIn, ?_⟩
  have rc : codeAny (model X.prog X.w) X.A (.call (.ref g) ⟨[.ref f], []⟩) (CR C8.CX0 X.stack X.prog X.w H1 s' Q C8.E0) s' := by
    refine LamX.run_ofS (N := Ng) (ps := [a]) (us := [.ref f]) (vs := [.ref f]) lk hcg Sg hr I1.env0 (hb s' [.ref f] I1.kIn rfl) (.cons rfl .nil) rfl fun hr' => ?_
    obtain ⟨t', ht', hq'⟩ := hG f c' s' H1 Q (fun E H' Q' => t E σ H' Q') hr' (fun W pn xe p1 p2 tk => pe_actS (i := 0) I1 L hf hfn hfr (hbind _ _ _ _ _) tk hr' (fun A outer s H E hr2 => hbody A outer s H E f c' hr2) hNg hva hd hcd) hco (h H1 eN T1)
    exact ⟨t', ht'.nox, hq'⟩
  refine wpAny_call (codeAny_mono rc fun r s2 hq => ?_)
  cases r with
  | error e => exact (show False from hq).elim
  | ok fl =>
    cases fl with
    | ret u => exact I1.after hq
    | next => exact False.elim hq
    | brk => exact False.elim hq
    | cont => exact False.elim hq
end
/-! ### texts of refusals -/
theorem int_log {i : Int} (h : i.natAbs < 2 ^ 64) : i.natAbs.log2 < 1920 := by
  by_cases z : i.natAbs = 0
  · rw [z]
    decide
  · have := (Nat.log2_lt z).mpr h
    omega
theorem int_len {i : Int} (h : i.natAbs < 2 ^ 64) : (Str.ofString (toString i)).length ≤ 1921 := PyProof.Rows.int_text_len_1921 (int_log h)
theorem str_add {a b : Str} {n m : Nat} (ha : a.length ≤ n) (hb : b.length ≤ m) : (a ++ b).length ≤ n + m := by
  rw [PySem.Str.length_append]
  omega
theorem str_fits {a : Str} {n : Nat} (h : a.length ≤ n) (hn : n ≤ 100000) : a.length ≤ sizeLine := by
  rw [sizeLine_eq]
  omega
/-! ### tables of code objects -/
theorem tabs_to {T : List (Addr × Str)} {H H' : Hp} (t : LamX.Tabs T H) (e : ∀ b o, H b = some o → ((∃ ps, o = .tbl ps) ∨ ∃ c q, o = LamX.CodeO c q) → H' b = some o) : LamX.Tabs T H' := fun p hp => by
  obtain ⟨ps, h1, h2, h3⟩ := t p hp
  refine ⟨ps, e _ _ h1 (.inl ⟨ps, rfl⟩), h2, fun pos cv hc => ?_⟩
  obtain ⟨c, e1, e2⟩ := h3 pos cv hc
  exact ⟨c, e1, e _ _ e2 (.inr ⟨c, p.2, rfl⟩)⟩
theorem tabs_put {T : List (Addr × Str)} {H : Hp} {p : Addr} {o0 o : HO} (t : LamX.Tabs T H) (h : H p = some o0) (n1 : ∀ ps, HO.tbl ps ≠ o0) (n2 : ∀ c q, LamX.CodeO c q ≠ o0) : LamX.Tabs T (upd H p o) := tabs_to t fun b u e k => by
  rw [upd_ne fun z => ?_]
  · exact e
  · rw [z, h] at e
    have e2 := Option.some.inj e
    rcases k with ⟨ps, z2⟩ | ⟨c, q, z2⟩
    · exact n1 ps (z2.symm.trans e2.symm)
    · exact n2 c q (z2.symm.trans e2.symm)
theorem code_lst {c : Addr} {q : Str} {xs : List V} : LamX.CodeO c q ≠ .lst xs := fun z => by
  unfold LamX.CodeO at z
  cases z
theorem code_dK {c : Addr} {q : Str} {kvs : List (Key × V)} : LamX.CodeO c q ≠ .dK kvs := fun z => by
  unfold LamX.CodeO at z
  cases z
theorem code_ins {c C : Addr} {q : Str} {dx : Addr} {fs : List (Str × V)} : LamX.CodeO c q ≠ .ins C dx fs := fun z => by
  unfold LamX.CodeO at z
  cases z
theorem tabs_same {T : List (Addr × Str)} {H H' : Hp} (t : LamX.Tabs T H) (s : Same H H') : LamX.Tabs T H' := t.ext s
theorem extN_same {H H' : Hp} (s : Same H H') : LamX.ExtN H H' := .of s
theorem _root_.LamX.ExtN.lst {H H' : Hp} (e : LamX.ExtN H H') {p : Addr} {xs : List V} (h : H p = some (.lst xs)) : H' p = some (.lst xs) := e _ _ h fun _ z => by cases z
theorem _root_.LamX.ExtN.seqT {K : PySem.W.Frag} {H H' : Hp} {a : Addr} {xs : List V} (e : LamX.ExtN H H') (h : SqT K H a xs) : SqT K H' a xs := by
  rcases h with (h | ⟨o, h⟩) | h
  · exact .inl (.inl (e _ _ h fun _ z => by cases z))
  · exact .inl (.inr ⟨o, e _ _ h fun _ z => by cases z⟩)
  · exact .inr h
theorem _root_.LamX.ExtN.seqL {K : PySem.W.Frag} {H H' : Hp} {a : Addr} {xs : List V} (e : LamX.ExtN H H') (h : SqL K H a xs) : SqL K H' a xs := by
  rcases h with (h | ⟨o, h⟩) | h
  · exact .inl (.inl (e _ _ h fun _ z => by cases z))
  · exact .inl (.inr ⟨o, e _ _ h fun _ z => by cases z⟩)
  · exact .inr h
section
variable {P : Program} {w : World} {K : PySem.W.Frag} {mg : Str → Option Value} {base : Heap}
/-- THE RULE for a def whose code object is at c -/
theorem okT {x : Str} {st : Stmt} {N ps : List Str} {k : Nat} {sp : Sp} {f c : Addr} {fd : FuncData} (F : FunD K x x (defArgs st) (defBody st) (defScope st) [] [] f fd) (hc : fd.code = .ref c) (S : FnScope N ps (defScope st)) (len : ∀ vs H Q E, sp vs H Q E → vs.length = ps.length)
    (hbody : ∀ (A : Around) (outer : List Env) (s : Shared) (H : Hp) (vs : List V) (Q : VK) (E : XK), Room k (A.deeper (envOfC x (defScope st) s.heap.objs.size f (.ref c))) → sp vs H Q E →
      ∃ t, PSs (cxOf CX0 P w K mg base N x (defScope st) f (.ref c) A outer s H E).nox (defBody st) t ∧ t { nx := fun _ H' => Q .non H', rt := Q } (start N vs) H) : FnOk P w K mg base CX0 (k + 1) f fd ps sp := by
  obtain ⟨oc, od, dV, kV, doc, pm, an, cdv, ct, osl, rfl, lk, hcd, _, _⟩ := F.ex
  have e : cdv = .ref c := hc
  subst e
  exact fn_of lk hcd S len fun A outer s H vs Q E hr hsp => by
    obtain ⟨t, h, q⟩ := hbody A outer s H vs Q E hr hsp
    exact ⟨t, h.nox, q⟩
end
/-- the end of a law with tables, the written part given by F -/
theorem walk_ofTE {l : PySem.W.OpenLaw} {n k : Nat} {q : Program} {loose : List Str} {XP : (Str → Option Value) → Heap → Prop} {YP : World → Heap → Prop} {d : DefRec} {CX : World → CXT} {x : Str}
    (hn : l.most = some n) (hn2 : n ≤ sizeLine) (hdf : d.params.defaults = []) (hr : Room k callerA)
    (F : ∀ (w : World) (mg : Str → Option Value) (fa : Addr) (h : Heap), YP w h → h.Ns mainGlobals mg → mg d.name = some (.ref fa) → ∃ K : PySem.W.Frag, K.In h ∧ LamX.LawAtS l w K (CX w) k n x mg fa h)
    (hCX : ∀ (w : World) (H : Hp) (s : Shared) (e : Value) (s' : Shared), CX w [] H s (fun _ _ _ => False) e s' → False) :
    PySem.W.WalkO q loose XP YP l.row.toRowW d [] (fun f vs => PySem.call f vs) := by
  refine Att.attach_callB hn hdf fun w s₀ s₁ mg mb fa o pm cd doc a vs ns G Y ho hd hcd hmg hobj hints hlen hbits hg => ?_
  obtain ⟨K, KX, fd, cs, sp, hT, nT, C, hb, hsp, hF⟩ := F w mg fa _ Y G.T.g hmg
  exact LamX.law_callTs KX G.T.g G.T.b G.T.builtins G.T.nolimit hg hT nT C G.T.bmain hobj hints (Nat.le_trans hlen hn2) hr hF hb (fun H hH hS => hsp H a ns hlen hbits hH hS) fun H e s' => hCX w H s₁ e s'
theorem tabs_start {cs : List (Addr × Addr)} {T : List (Addr × Str)} {H : Hp} (hT : ∀ p ∈ cs, H p.2 = some (.tbl #[])) (hs : ∀ q ∈ T, ∃ p ∈ cs, p.2 = q.1) : LamX.Tabs T H := fun q hq => by
  obtain ⟨p, hp, e⟩ := hs q hq
  exact LamX.TabS.nil (e ▸ hT p hp)
end K3

set_option Elab.async false
set_option linter.all false
set_option maxRecDepth 100000
set_option maxHeartbeats 4000000
/-! KL: lambdas as values: kept in lists, handed to defs, called there; some with a default -/
namespace K3
open PySem PySem.Spec PyProof.Rows L2
/-- a lambda's object -/
def LamO (f : Addr) (q : Str) (params : Arguments) (body : Expr) (scope : Scope) (clos : List (Str × Addr)) (dV : Value) (c' : Addr) : HO := .ext fun h => ∃ doc pm ctv : Value, h.get? f = some (PySem.W.kdv_obj "<lambda>" q params (.expr body) scope clos dV doc pm c' ctv)
/-- .. made in the context X, its code object at c', its defaults dvs -/
def LamAt (X : Cx) (H : Hp) (f c' : Addr) (params : Arguments) (body : Expr) (scope : Scope) (dvs : List V) : Prop :=
  ∃ dV : Value, H f = some (LamO f (X.env.qual ++ "<lambda>") params body scope (cloFrom X.env.cells scope.names []) dV c') ∧ H c' = some (LamX.CodeO c' (X.env.qual ++ "<lambda>")) ∧ ((dvs = [] ∧ dV = .none) ∨ (dvs ≠ [] ∧ ∃ t, dV = .ref t ∧ H t = some (.tup dvs)))
theorem LamAt.same {X : Cx} {H H' : Hp} {f c' : Addr} {params : Arguments} {body : Expr} {scope : Scope} {dvs : List V} (h : LamAt X H f c' params body scope dvs) (s : Same H H') : LamAt X H' f c' params body scope dvs := by
  obtain ⟨dV, h1, h2, h3⟩ := h
  refine ⟨dV, s _ _ h1, s _ _ h2, ?_⟩
  rcases h3 with z | ⟨z, t, e, ht⟩
  · exact .inl z
  · exact .inr ⟨z, t, e, s _ _ ht⟩
theorem lamO_ne {f c' : Addr} {q : Str} {params : Arguments} {body : Expr} {scope : Scope} {clos : List (Str × Addr)} {dV : Value} (ps : Array Value) : LamO f q params body scope clos dV c' ≠ .tbl ps := fun z => by
  unfold LamO at z
  cases z
theorem LamAt.extN {X : Cx} {H H' : Hp} {f c' : Addr} {params : Arguments} {body : Expr} {scope : Scope} {dvs : List V} (h : LamAt X H f c' params body scope dvs) (s : LamX.ExtN H H') : LamAt X H' f c' params body scope dvs := by
  obtain ⟨dV, h1, h2, h3⟩ := h
  refine ⟨dV, s _ _ h1 lamO_ne, s _ _ h2 LamX.codeO_ne, ?_⟩
  rcases h3 with z | ⟨z, t, e, ht⟩
  · exact .inl z
  · exact .inr ⟨z, t, e, s _ _ ht fun _ z => by cases z⟩
section
variable {X : Cx} {pins : List (Addr × Obj)} {σ : L2.St} {H : Hp} {s : Shared}
theorem lam_tail {T : List (Addr × Str)} {c P : Addr} {params : Arguments} {body : Expr} {scope : Scope} {pos : Pos} {dV : Value} {E : Value → Shared → Prop} {Q : Value → Shared → Prop} (I : Inv X pins σ H s) (TB : LamX.TabB X.base X.mg c P) (hcode : X.env.code = .ref c)
    (hm : (P, X.env.qual ++ "<lambda>") ∈ T) (hu : ∀ p ∈ T, p.1 = P → p.2 = X.env.qual ++ "<lambda>") (hT : LamX.Tabs T H) (hfree : ∀ y ∈ scope.names, y.2 = .free → ∃ c, X.env.cells.lookup y.1 = some c)
    (h : ∀ (f c' : Addr) (H1 : Hp) (s' : Shared), Inv X pins σ H1 s' → LamX.ExtN H H1 → LamX.Tabs T H1 →
      H1 f = some (LamO f (X.env.qual ++ "<lambda>") params body scope (cloFrom X.env.cells scope.names []) dV c') → H1 c' = some (LamX.CodeO c' (X.env.qual ++ "<lambda>")) → Q (.ref f) s') :
    wpAny (model X.prog X.w) X.A (makeTail "<lambda>" (X.env.qual ++ "<lambda>") params (.expr body) scope X.env dV .none none pos pos.line) Q E s := by
  obtain ⟨ps, hP, ht, ha⟩ := hT _ hm
  have bP : s.heap.BuiltinsAt X.mg P := TB.bm.keeps I.bk
  have hP' : s.heap.get? P = some { cls := .none, data := .fields ps } := I.hok P _ hP
  -- behind the code object: the function object is new
  have last : ∀ {H1 : Hp} {h' : Heap} {tk : Nat} {doc pm ctv : Value} {c' : Addr}, Inv X pins σ H1 { s with heap := h', toks := tk } → LamX.ExtN H H1 → LamX.Tabs T H1 → H1 c' = some (LamX.CodeO c' (X.env.qual ++ "<lambda>")) →
      Q (.ref h'.objs.size) { s with heap := h'.push (PySem.W.kdv_obj "<lambda>" (X.env.qual ++ "<lambda>") params (.expr body) scope (cloFrom X.env.cells scope.names []) dV doc pm c' ctv), toks := tk } := fun {H1 h' tk doc pm ctv c'} I1 e1 t1 hc => by
    have hn : H1 h'.objs.size = none := I1.hok.fresh (Nat.le_refl _)
    refine h h'.objs.size c' (upd H1 h'.objs.size (LamO h'.objs.size (X.env.qual ++ "<lambda>") params body scope (cloFrom X.env.cells scope.names []) dV c')) _ (I1.laid (t' := tk) (fun b u e => Heap.get?_push_of_some _ e) (Nat.le_refl _) ?_) (e1.trans (.of (Same.upd hn))) (t1.ext (Same.upd hn)) upd_same (Same.upd hn _ _ hc)
    exact ⟨⟨doc, pm, ctv, Heap.get?_push_size _ rfl⟩, ⟨_, Heap.get?_push_size _ rfl⟩, fun h1 h2 ⟨d, p, t, e⟩ st => ⟨d, p, t, st _ e⟩⟩
  cases hc : codeAmong pos ps.toList with
  | none =>
    refine PySem.W.kdv_makeTail (mg := X.mg) (c := c) (P := P) (ps := ps) (closure_ok hfree) I.ok.glob (I.mod.glob.keeps I.bk) hcode (TB.code.keeps I.bk) hP' ht hc TB.gP bP fun c' ctv doc h' tk hx hge hlt hrec htb => ?_
    obtain ⟨c2, oc, vs, t, e2, hoc, hd, hv⟩ := hrec
    cases e2
    have nC : H c' = none := I.hok.fresh hge
    have I1 := LamX.inv_table (t' := tk) (more := #[rawInt pos.line, rawInt pos.col, .ref c']) (h' := h') I hP (fun b o hb e => hx b o hb e) htb hge ⟨oc, vs, t, hoc, hd, hv⟩
    have hE : LamX.ExtN H (upd (upd H P (.tbl (ps ++ #[rawInt pos.line, rawInt pos.col, .ref c']))) c' (LamX.CodeO c' (X.env.qual ++ "<lambda>"))) := fun b o e n => by
      rw [upd_ne (ne_of_none e nC), upd_ne (fun z => n ps (Option.some.inj (e.symm.trans (by rw [z]; exact hP))))]
      exact e
    have eL : (ps ++ #[rawInt pos.line, rawInt pos.col, .ref c']).toList = ps.toList ++ [rawInt pos.line, rawInt pos.col, .ref c'] := by simp
    refine last I1 hE (fun p hp => ?_) upd_same
    by_cases hb : p.1 = P
    · rw [hu p hp hb, hb]
      refine ⟨_, by rw [upd_ne (ne_of_none hP nC), upd_same], by rw [eL]; exact PySem.TriplesOk_snoc _ _ _ _ ht, fun p' cv hcv => ?_⟩
      rw [eL] at hcv
      rcases LamX.among_app _ ht hcv with z | z
      · obtain ⟨c0, e1, e2⟩ := ha p' cv z
        exact ⟨c0, e1, hE _ _ e2 LamX.codeO_ne⟩
      · exact ⟨c', z, upd_same⟩
    · obtain ⟨ps', a1, a2, a3⟩ := hT p hp
      refine ⟨ps', by rw [upd_ne (ne_of_none a1 nC), upd_ne hb]; exact a1, a2, fun p' cv hcv => ?_⟩
      obtain ⟨c0, e1, e2⟩ := a3 p' cv hcv
      exact ⟨c0, e1, hE _ _ e2 LamX.codeO_ne⟩
  | some cv =>
    obtain ⟨c', e, hco⟩ := ha pos cv hc
    subst e
    refine PySem.W.kdv_makeTailHit (mg := X.mg) (c := c) (P := P) (ps := ps) (closure_ok hfree) I.ok.glob (I.mod.glob.keeps I.bk) hcode (TB.code.keeps I.bk) hP' ht hc bP fun ctv doc h' tk hx hsz => ?_
    exact last (I.kept hx) (.refl H) hT hco
/-- lambda: e, as a value -/
def tLamV (X : Cx) (T : List (Addr × Str)) (params : Arguments) (body : Expr) (scope : Scope) (dvs : List V) : TE := fun _ H Q => LamX.Tabs T H ∧ ∀ f c' H1, LamX.ExtN H H1 → LamX.Tabs T H1 → LamAt X H1 f c' params body scope dvs → Q (.ref f) H1
theorem pe_lam0 {T : List (Addr × Str)} {c P : Addr} {params : Arguments} {body : Expr} {scope : Scope} {pos : Pos} (TB : LamX.TabB X.base X.mg c P) (hcode : X.env.code = .ref c)
    (hm : (P, X.env.qual ++ "<lambda>") ∈ T) (hu : ∀ p ∈ T, p.1 = P → p.2 = X.env.qual ++ "<lambda>") (hfree : ∀ y ∈ scope.names, y.2 = .free → X.env.scope.names.lookup y.1 = some .cell ∨ X.env.scope.names.lookup y.1 = some .free) (hdef : defaultsOf params X.env = ([], [])) :
    PE X (.Lambda params body scope pos) (tLamV X T params body scope []) := by
  refine ⟨fun pins s σ H Q I h => ?_⟩
  obtain ⟨hT, h⟩ := h
  refine PySem.W.kla_eval hdef ?_
  rw [makeFunction_eq]
  simp only [List.zip_nil_right, List.filterMap_nil, List.isEmpty_nil, if_true, pure_bind]
  refine lam_tail I TB hcode hm hu hT (fun y hy e => ?_) fun f c' H1 s' I1 e1 t1 hf hc => ⟨.ref f, H1, I1, rfl, h f c' H1 e1 t1 ⟨.none, hf, hc, .inl ⟨rfl, rfl⟩⟩⟩
  rcases hfree y hy e with k | k
  · exact I.ok.has _ (.inl k)
  · exact I.ok.has _ (.inr k)
/-- .. with one default -/
theorem pe_lam1 {T : List (Addr × Str)} {c P : Addr} {params : Arguments} {d body : Expr} {i : Int} {scope : Scope} {pos : Pos} (TB : LamX.TabB X.base X.mg c P) (hcode : X.env.code = .ref c)
    (hm : (P, X.env.qual ++ "<lambda>") ∈ T) (hu : ∀ p ∈ T, p.1 = P → p.2 = X.env.qual ++ "<lambda>") (hfree : ∀ y ∈ scope.names, y.2 = .free → X.env.scope.names.lookup y.1 = some .cell ∨ X.env.scope.names.lookup y.1 = some .free)
    (hdef : params.defaults = [d]) (hk : params.kw_defaults = []) (hd : PE X d (fun _ H Q => Q (.int i) H)) :
    PE X (.Lambda params body scope pos) (tLamV X T params body scope [.int i]) := by
  refine ⟨fun pins s σ H Q I h => ?_⟩
  obtain ⟨hT, h⟩ := h
  refine PySem.W.kdv_lam (by rw [hdef]; rfl) hk ?_
  rw [hdef]
  refine PySem.W.kdv_all1 (thn (hd.run pins s σ H (fun v H1 => v = .int i ∧ H1 = H) I ⟨rfl, rfl⟩) fun u s1 ⟨v, H1, I1, r1, q1⟩ => ?_)
  obtain ⟨ev, eH⟩ := q1
  subst ev
  rw [eH] at I1
  refine PySem.W.kdv_all0 ?_
  rw [makeFunction_eq]
  simp only [List.zip_nil_right, List.filterMap_nil, List.isEmpty_nil, if_true, pure_bind, List.isEmpty_cons, Bool.false_eq_true, if_false]
  have hn : H s1.heap.objs.size = none := I1.hok.fresh (Nat.le_refl _)
  refine wpAny_bind (wpAny_newTextTuple ?_)
  have I2 : Inv X pins σ (upd H s1.heap.objs.size (.tup [.int i])) { s1 with heap := s1.heap.push { cls := .type "tuple", data := .seq [u].toArray } } := I1.laid (t' := s1.toks) (fun b u e => Heap.get?_push_of_some _ e) (Nat.le_refl _) ⟨by show 1 ≤ sizeLine; decide, [u], .cons r1 .nil, ⟨_, Heap.get?_push_size _ rfl, rfl, _, rfl⟩⟩
  refine lam_tail I2 TB hcode hm hu (hT.ext (Same.upd hn)) (fun y hy e => ?_) fun f c' H1 s' I1 e1 t1 hf hc => ⟨.ref f, H1, I1, rfl, h f c' H1 ((LamX.ExtN.of (Same.upd hn)).trans e1) t1 ⟨_, hf, hc, .inr ⟨by simp, _, rfl, e1 _ _ upd_same fun _ z => by cases z⟩⟩⟩
  rcases hfree y hy e with k | k
  · exact I2.ok.has _ (.inl k)
  · exact I2.ok.has _ (.inr k)
end
/-! ### calling one: where the maker's cells stand in the base -/
/-- no name of its own but parameters -/
structure LamP (N : List Str) (sc scope : Scope) (ps : List Str) : Prop where
  kind : scope.kind = .function
  co : scope.isCoroutine = false
  gen : scope.isGenerator = false
  own : ∀ y ∈ scope.names, y.2 ≠ .cell ∧ (y.2 = .local → y.1 ∉ N)
  free : ∀ y ∈ scope.names, y.2 = .free → sc.names.lookup y.1 = some .cell ∨ sc.names.lookup y.1 = some .free
  par : ∀ p ∈ ps, scope.names.lookup p = some .local
def lamPB (N : List Str) (sc scope : Scope) (ps : List Str) : Bool :=
  decide (scope.kind = .function) && !scope.isCoroutine && !scope.isGenerator && (scope.names.all fun y => !decide (y.2 = .cell) && (!decide (y.2 = .local) || decide (y.1 ∉ N)) && (!decide (y.2 = .free) || decide (sc.names.lookup y.1 = some .cell) || decide (sc.names.lookup y.1 = some .free))) &&
    ps.all fun p => decide (scope.names.lookup p = some .local)
theorem lamP_by {N : List Str} {sc scope : Scope} {ps : List Str} (h : lamPB N sc scope ps = true) : LamP N sc scope ps := by
  unfold lamPB at h
  simp only [Bool.and_eq_true, Bool.or_eq_true, Bool.not_eq_true', decide_eq_true_eq, decide_eq_false_iff_not, List.all_eq_true] at h
  obtain ⟨⟨⟨⟨h1, h2⟩, h3⟩, h4⟩, h5⟩ := h
  refine ⟨h1, h2, h3, fun y hy => ⟨(h4 y hy).1.1, fun e => ?_⟩, fun y hy e => ?_, h5⟩
  · rcases (h4 y hy).1.2 with z | z
    · exact absurd e z
    · exact z
  · rcases (h4 y hy).2 with (z | z) | z
    · exact absurd e z
    · exact .inl z
    · exact .inr z
/-- how its parameters are bound: all by defaults -/
def LamB (params : Arguments) (body : Expr) (scope : Scope) (ps : List Str) (dvs : List V) : Prop :=
  (dvs = [] ∧ ∀ (q : Str) (cl : List (Str × Addr)) (doc pm cv ctv : Value), bindArgs (PySem.W.kdv_fn "<lambda>" q params (.expr body) scope cl .none doc pm cv ctv) ⟨[], []⟩ = pure []) ∨
  (dvs ≠ [] ∧ dvs.length = ps.length ∧ ∀ (q : Str) (cl : List (Str × Addr)) (t : Addr) (doc pm cv ctv : Value) (its : List Value), its.length = ps.length →
    ∃ k, bindArgs (PySem.W.kdv_fn "<lambda>" q params (.expr body) scope cl (.ref t) doc pm cv ctv) ⟨[], []⟩ = seqItems? (.ref t) >>= k ∧ k (some its.toArray) = pure (ps.zip its))
/-- f may be called without arguments wherever base stands -/
def CallB (P : Program) (w : World) (K : PySem.W.Frag) (mg : Str → Option Value) (base : Heap) (k : Nat) (f : Addr) (tl : XK → Hp → VK → Prop) : Prop :=
  ∀ (A : Around) (outer : List Env) (s : Shared) (H : Hp) (Q : VK) (E : XK), Room k A → Env0 P w K mg base A outer s H → tl E H Q →
    PySem.W.FnAt f s.heap ∧ codeAny (model P w) A (.call (.ref f) ⟨[], []⟩) (CR (L2.CX P w) outer P w H s Q E) s
/-- what the maker of lambdas tells of a base -/
def LamsOk (X : Cx) (σ : L2.St) (base' : Heap) : Prop :=
  Mod X.K X.mg base' ∧ ∀ {params : Arguments} {body : Expr} {scope : Scope} {ps : List Str} {dvs : List V} {k : Nat} {t : XK → TE} {f c' : Addr}, LamP X.N X.env.scope scope ps → LamB params body scope ps dvs →
    (∀ (A : Around) (outer : List Env) (s : Shared) (H : Hp) (E : XK), Room k (A.deeper (LamX.lamEnv X scope s.heap.objs.size f c')) → PE (LamX.lamCx X A outer s H E scope f c') body (t E)) →
    CallB X.prog X.w X.K X.mg base' (k + 1) f fun E HZ Q => LamAt X HZ f c' params body scope dvs ∧ t E σ HZ Q
section
variable {X : Cx} {pins : List (Addr × Obj)} {σ : L2.St} {H : Hp} {s : Shared}
/-- all that isn't tracked and is no frame -/
def bigB (X : Cx) (H : Hp) (h : Heap) : Heap := PySem.W.hideAll (hidT h H) (frs X.stack)
theorem bigB_get {b : Addr} {o : Obj} (e : s.heap.get? b = some o) (n : H b = none) (f : b ∉ frs X.stack) : (bigB X H s.heap).get? b = some o := PySem.W.hideAll_get _ (hidT_get e n) f
theorem of_bigB {b : Addr} {o : Obj} (e : (bigB X H s.heap).get? b = some o) : s.heap.get? b = some o ∧ H b = none := of_hidT (PySem.W.of_hideAll _ e)
theorem bigB_sub (I : Inv X pins σ H s) {b : Addr} {o : Obj} (e : X.base.get? b = some o) : (bigB X H s.heap).get? b = some o :=
  bigB_get (I.bs b o e).1 (I.bs b o e).2 fun z => by
    have := (Heap.FunFrames.mem I.stack z).1
    rw [e] at this
    cases this
theorem bigB_size : (bigB X H s.heap).objs.size = s.heap.objs.size := (PySem.W.hideAll_size _ _).trans (hidT_size _ _)
theorem funs_to {h b1 b2 : Heap} : ∀ {l : List Env}, h.FunFrames b1 l → (∀ L ∈ frs l, b2.get? L = none) → h.FunFrames b2 l
  | [], _, _ => trivial
  | env :: r, ⟨hk, ⟨L, o, hf, hn, ho, hd⟩, hr⟩, g => by
    have m : ∀ b ∈ frs r, b ∈ frs (env :: r) := fun b hb => by
      unfold frs at hb ⊢
      rw [List.filterMap_cons, hf]
      exact List.mem_cons_of_mem _ hb
    refine ⟨hk, ⟨L, o, hf, g L ?_, ho, hd⟩, funs_to hr fun b hb => g b (m b hb)⟩
    unfold frs
    rw [List.filterMap_cons, hf]
    exact List.mem_cons_self
theorem bigB_env0 (I : Inv X pins σ H s) : Mod X.K X.mg (bigB X H s.heap) ∧ Env0 X.prog X.w X.K X.mg (bigB X H s.heap) X.A X.stack s H := by
  have k : ∀ b o, X.base.get? b = some o → (bigB X H s.heap).get? b = some o := fun b o e => bigB_sub I e
  obtain ⟨mb, h1, h2⟩ := I.mod.blt
  have M : Mod X.K X.mg (bigB X H s.heap) := ⟨I.mod.kin.keeps k, I.mod.glob.keeps k, ⟨mb, h1.keeps k, h2⟩, I.mod.nolimit.keeps k⟩
  exact ⟨M, I.ok.frames, M, fun b o e => of_bigB e, Nat.le_of_eq bigB_size, funs_to I.stack fun b hb => PySem.W.hideAll_none _ hb, I.stkFree, I.hok, I.bare⟩
theorem lam_startB {A : Around} {outer : List Env} {E : XK} {scope : Scope} {f c' : Addr} {h₁ : Heap} {tk : Nat} {ps : List Str} {its : List Value} {s1 : Shared} {HZ : Hp} (I : Inv X pins σ H s) (hfn : ∀ x, X.fn x = true) (L : LamP X.N X.env.scope scope ps)
    (e0 : Env0 X.prog X.w X.K X.mg (bigB X H s.heap) A outer s1 HZ) (hd : A.handled = none)
    (hns : h₁.Ns s1.heap.objs.size fun y => (ps.zip its).reverse.lookup y) (kp : ∀ b o, s1.heap.get? b = some o → h₁.get? b = some o) :
    Inv (LamX.lamCx X A outer s1 HZ E scope f c') [] σ HZ { s1 with heap := h₁, toks := tk } := by
  have hfree : ∀ y ∈ scope.names, y.2 = .free → ∃ c, X.env.cells.lookup y.1 = some c := fun y hy e => by
    rcases L.free y hy e with k | k
    · exact I.ok.has _ (.inl k)
    · exact I.ok.has _ (.inr k)
  have cm : ∀ {y c}, (cloFrom X.env.cells scope.names []).lookup y = some c → X.env.cells.lookup y = some c := fun {y c} e => by
    rcases cloFrom_mem (PySem.mem_of_lookup e) with hm | ⟨h1, h2⟩
    · cases hm
    · obtain ⟨c1, hc⟩ := hfree _ h1 rfl
      have hc : X.env.cells.lookup y = some c1 := hc
      have e2 : c = c1 := by
        rw [h2, hc] <;> rfl
      rw [e2]
      exact hc
  have look : ∀ {y}, scope.names.lookup y = some .free → ∃ c, (cloFrom X.env.cells scope.names []).lookup y = some c := fun {y} hl => mem_lookup (cloFrom_has (cells := X.env.cells) (acc := []) (PySem.mem_of_lookup hl))
  -- a cell stands in the base
  have cellB : ∀ {y c o}, X.env.cells.lookup y = some c → s.heap.get? c = some o → s1.heap.get? c = some o ∧ HZ c = none := fun {y c o} e ho => by
    refine e0.bs c o (bigB_get ho (I.freeC y c e) fun z => ?_)
    rcases List.mem_cons.mp (I.stkSub c z) with z | z
    · exact I.cne y c e z
    · obtain ⟨_, o', ho', _⟩ := I.ok.funs.mem z
      exact absurd (Nat.lt_of_lt_of_le (Heap.lt_size ho') (I.ok.cab y c (hfn y) e)) (Nat.lt_irrefl _)
  have cellK : ∀ {y c} {v : Option Value}, X.env.cells.lookup y = some c → s.heap.IsCell c v → h₁.IsCell c v := fun {y c v} e ⟨o, ho, hdt⟩ => ⟨o, kp _ _ (cellB e ho).1, hdt⟩
  have noA : ∀ b : Addr, b ∉ (LamX.lamCx X A outer s1 HZ E scope f c').ex := fun b z => absurd (show b ∈ ([] : List Addr) from z) (by simp)
  refine ⟨⟨I.mod, L.kind, rfl, rfl, Nat.le_refl _, fun y z c e1 e2 => I.ok.inj y z c (cm e1) (cm e2), fun y hy => ?_, fun y c z _ => ?_, fun _ => hd, Around.frames_deeper e0.frames, .inr ⟨rfl, rfl⟩, fun b z => absurd z (noA b), fun b o e => e0.bs b o (bigB_sub I e), ?_, fun b _ _ => noA b,
      fun b z => absurd z (noA b), funs_to e0.funs fun b hb => ?_, e0.frf⟩,
    rfl, e0.bare, Un.kept kp, ⟨_, hns, fun i y v e1 e2 e3 => ?_⟩, fun y c e => ?_, e0.hok.fresh (Nat.le_refl _), fun y c e => ?_, fun q hq => absurd (show q ∈ ([] : List (Addr × Obj)) ++ [] from hq) (by simp), e0.hok.kept kp, I.len⟩
  · have hy : scope.names.lookup y = some .cell ∨ scope.names.lookup y = some .free := hy
    rcases hy with hy | hy
    · exact absurd rfl (L.own _ (PySem.mem_of_lookup hy)).1
    · exact look hy
  · have z : false = true := z
    cases z
  · exact Nat.le_trans (Nat.le_trans I.ok.bsz I.sz) (Nat.le_trans (Nat.le_of_eq bigB_size.symm) e0.bsz)
  · cases q : X.base.get? b with
    | none => exact q
    | some o =>
      have := (Heap.FunFrames.mem e0.funs hb).1
      rw [bigB_sub I q] at this
      cases this
  · have e3 : Vis scope y := e3
    have e1 : X.N[i]? = some y := e1
    rcases e3 with k | k | k
    · exact absurd (List.mem_of_getElem? e1) ((L.own _ (PySem.mem_of_lookup k)).2 rfl)
    · exact absurd rfl (L.own _ (PySem.mem_of_lookup k)).1
    · obtain ⟨m, hn, hl⟩ := I.loc
      have hvis : Vis X.env.scope y := (L.free _ (PySem.mem_of_lookup k) rfl).elim (fun k => .inr (.inl k)) (fun k => .inr (.inr k))
      obtain ⟨w', r, q⟩ := hl i y v e1 e2 hvis
      obtain ⟨c2, h2⟩ := look k
      refine ⟨w', r, .inr ⟨.inr k, c2, h2, ?_⟩⟩
      have c1 := cm h2
      rcases q with ⟨k', _⟩ | ⟨_, c3, e', z⟩
      · have k' : X.env.scope.names.lookup y = some .local := k'
        rcases L.free _ (PySem.mem_of_lookup k) rfl with k2 | k2 <;> rw [show X.env.scope.names.lookup y = _ from k2] at k' <;> cases k'
      · rw [c1] at e'
        cases e'
        exact cellK c1 z
  · obtain ⟨w', z⟩ := I.cell y c (cm e)
    exact ⟨w', cellK (cm e) z⟩
  · obtain ⟨v, o, ho, hdt⟩ := I.cell y c (cm e)
    exact (cellB (cm e) ho).2
theorem lams_ok (I : Inv X pins σ H s) (hfn : ∀ x, X.fn x = true) : LamsOk X σ (bigB X H s.heap) := by
  refine ⟨(bigB_env0 I).1, fun {params body scope ps dvs k t f c'} L B hbody A outer s1 HZ Q E hr e0 h => ?_⟩
  obtain ⟨⟨dV, hf, hc, hdv⟩, ht⟩ := h
  obtain ⟨⟨doc, pm, ctv, of1⟩, _, _⟩ := e0.hok f _ hf
  obtain ⟨⟨oc, vs, tk, hoc, hdc, hvc⟩, _, _⟩ := e0.hok c' _ hc
  have hb : ∃ its : List Value, (∀ y ∈ ps.zip its, scope.names.lookup y.1 = some .local) ∧ BindsTo s1 (PySem.W.kdv_fn "<lambda>" (X.env.qual ++ "<lambda>") params (.expr body) scope (cloFrom X.env.cells scope.names []) dV doc pm (.ref c') ctv) ⟨[], []⟩ (ps.zip its) := by
    have pz : ∀ {its : List Value}, ∀ y ∈ ps.zip its, scope.names.lookup y.1 = some .local := fun {its} ⟨a, b⟩ hy => L.par _ (List.of_mem_zip hy).1
    rcases B with ⟨e, hb⟩ | ⟨hne, hl, hb⟩
    · rcases hdv with ⟨_, z⟩ | ⟨z, _⟩
      · refine ⟨[], pz, ?_⟩
        rw [z, List.zip_nil_right]
        exact .of_eq (hb _ _ _ _ _ _)
      · exact absurd e z
    · rcases hdv with ⟨z, z2⟩ | ⟨_, tp, z, htp⟩
      · exact absurd z hne
      · obtain ⟨_, its, rv, ot, h1, h2, n, h3⟩ := e0.hok tp _ htp
        obtain ⟨k, e1, e2⟩ := hb (X.env.qual ++ "<lambda>") (cloFrom X.env.cells scope.names []) tp doc pm (.ref c') ctv its (rv.length.symm.trans hl)
        refine ⟨its, pz, ?_⟩
        rw [z]
        exact .of_defaults rfl h1 h3 e1 e2
  obtain ⟨its, hloc, hbt⟩ := hb
  refine ⟨⟨_, _, _, _, of1⟩, PySem.W.kla_callFunE hr.depth of1 rfl L.co L.gen rfl ⟨c', oc, vs, tk, rfl, hoc, hdc, hvc⟩ (hbt _ _ _ _ (wpAny_newFunctionEnv (fun y hy => (L.own y hy).1) hloc (fun h₁ hns hsb => ⟨((I.mod.nolimit.keeps fun b o e => (e0.bs b o (bigB_sub I e)).1)).fresh _ hsb, ?_⟩) L.kind))⟩
  show codeAny _ _ (.expr body (LamX.lamEnv X scope s1.heap.objs.size f c')) _ _
  have kp : ∀ b o, s1.heap.get? b = some o → h₁.get? b = some o := fun b o e => hsb.extBut b o (Nat.ne_of_lt (Heap.lt_size e)) (Heap.get?_push_of_some _ e)
  have J := lam_startB (E := E) (f := f) (c' := c') (tk := s1.toks + (ps.zip its).length) I hfn L e0 hr.hd hns kp
  refine PySem.W.kla_codeExpr (wpAny_mono ((hbody A outer s1 HZ E (hr.deeper _)).run [] _ _ HZ Q J ht) (fun v s' hq => ?_) fun e s' hq => hq)
  obtain ⟨w', H', J', rv, q⟩ := hq
  exact ⟨w', H', J'.os, J'.bare, J'.base, J'.hok, rv, q⟩
end
end K3

set_option Elab.async false
set_option linter.all false
set_option maxRecDepth 100000
set_option maxHeartbeats 4000000
/-! KY: the name of a refusal's class; what is told, or the refusal -/
namespace K3
open PySem PySem.Spec PyProof.Rows L2
structure TxtE (mg : Str → Option Value) : Prop where
  b_ValueError : mg "ValueError" = none
def cnms : List Str := ["BadNumber", "BadValues", "NoForm", "BadPrices", "BadKinds", "BadRows", "BadCondition", "BadColumn", "BadHeap", "TooMany", "BadBlock", "Stopped", "BadText"]
def cnm (i : Nat) : Str := cnms.getD i Str.empty
/-- the classes of refusals: theirs is at cs i, ColumnError at CE -/
structure Kinds (K : PySem.W.Frag) (mg : Str → Option Value) (cs : Nat → Addr) (CE : Addr) : Prop where
  g : ∀ i, i < 13 → mg (cnm i) = some (.ref (cs i))
  c : ∀ i, i < 13 → L2.ExcC K (cs i)
  k : ∀ i j, i < 13 → j < 13 → PySem.W.kitOne K (.ref (cs i)) (.ref (cs j)) = some (decide (i = j))
  v : ∀ i, i < 13 → PySem.W.kitOne K (.ref (cs i)) (.type "ValueError") = some true
  m : ∀ i, i < 13 → PySem.W.exmOne K (.ref (cs i)) (.ref CE) = some true
  ge : mg "ColumnError" = some (.ref CE)
  xf : ∀ i, i = 1 ∨ i = 5 ∨ i = 12 → XfC K (cs i) ∧ PySem.W.findIn K (.ref (cs i)) "place" = some none
def kb (i n : Nat) : List V := (List.range n).map fun j => V.bl (decide (i = j))
theorem kb_flat (i n : Nat) : (kb i n).all flatV = true := by
  unfold kb
  rw [List.all_map]
  exact List.all_eq_true.mpr fun _ _ => rfl
theorem kb_at {i j n : Nat} (h : j < n) : (kb i n)[j]? = some (.bl (decide (i = j))) := by
  unfold kb
  rw [List.getElem?_map, List.getElem?_range h]
  rfl
theorem kb_count : ∀ i, i < 13 → (kb i 13).countP (fun z => eqV z (.bl true)) = 1 := by decide
theorem cnm_at : ∀ {i : Nat}, i < 13 → (cnms.map V.str)[i]? = some (.str (cnm i)) := fun {i} h => by
  unfold cnm
  have hl : i < cnms.length := h
  rw [List.getElem?_map, List.getD_eq_getElem?_getD, List.getElem?_eq_getElem hl]
  rfl
section
variable {P : Program} {w : World} {K : PySem.W.Frag} {mg : Str → Option Value} {base : Heap}
abbrev s__law_class : Stmt := top 44
abbrev N__law_class : List Str := ["_law_e", "_law_kinds_here", "_law_words"]
abbrev P__law_class : List Str := ["_law_e"]
theorem sc__law_class : FnScope N__law_class P__law_class (defScope s__law_class) := ⟨rfl, rfl, rfl, by decide +kernel, rfl, by decide +kernel, by decide +kernel⟩
def spClass (K : PySem.W.Frag) (cs : Nat → Addr) : Addr × Obj → Sp := fun p vs H Q _ => ∃ (i : Nat) (d : Option Addr), i < 13 ∧ vs = [.ref p.1] ∧ Zc (.ref (cs i)) d p.2 ∧ (∃ fl, p.2.data = .fields fl) ∧ (∀ dd, d = some dd → ∃ fs, H dd = some (.xd fs)) ∧ ∀ H', Same H H' → Q (.str (cnm i)) H'
theorem ok_class {cs : Nat → Addr} {CE : Addr} (T : Txt mg) (TE : TxtE mg) (KS : Kinds K mg cs CE) (D : Df K mg "_law_class" s__law_class P__law_class) : Fnp P w K mg base CX0 1 "_law_class" P__law_class (spClass K cs) := by
  refine D.okP sc__law_class (fun p vs H Q E h => ?_) (fun f cdv A outer s H vs Q E p hr h => ?_)
  · obtain ⟨i, d, _, rfl, _⟩ := h
    rfl
  · obtain ⟨i, d, hi, rfl, hz, hf, hd, k⟩ := h
    have nd := sc__law_class.nd
    have keep : ∀ {H1}, Same H H1 → ∀ dd, d = some dd → ∃ fs, H1 dd = some (.xd fs) := fun {H1} s dd e => by
      obtain ⟨fs, h⟩ := hd dd e
      exact ⟨fs, s _ _ h⟩
    refine ⟨_, (pss_cons (ps_set (i := 1) nd rfl (by first | exact Or.inl rfl | exact Or.inr rfl) (pe_lst (pa_cons (pe_callB (call_isP List.mem_cons_self (KS.c i hi) hz hf) (by rfl) T.b_isinstance (by decide +kernel) (pa_cons (pv 0) (pa_cons (pe_glob (v := .ref (cs 0)) (by rfl) (KS.g 0 (by decide)) rfl) pa_nil))) (pa_cons (pe_callB (call_isP List.mem_cons_self (KS.c i hi) hz hf) (by rfl) T.b_isinstance (by decide +kernel) (pa_cons (pv 0) (pa_cons (pe_glob (v := .ref (cs 1)) (by rfl) (KS.g 1 (by decide)) rfl) pa_nil))) (pa_cons (pe_callB (call_isP List.mem_cons_self (KS.c i hi) hz hf) (by rfl) T.b_isinstance (by decide +kernel) (pa_cons (pv 0) (pa_cons (pe_glob (v := .ref (cs 2)) (by rfl) (KS.g 2 (by decide)) rfl) pa_nil))) (pa_cons (pe_callB (call_isP List.mem_cons_self (KS.c i hi) hz hf) (by rfl) T.b_isinstance (by decide +kernel) (pa_cons (pv 0) (pa_cons (pe_glob (v := .ref (cs 3)) (by rfl) (KS.g 3 (by decide)) rfl) pa_nil))) pa_nil))))))
  (pss_cons (ps_set (i := 1) nd rfl (by first | exact Or.inl rfl | exact Or.inr rfl) (pe_op op_cat (pv 1) (pe_lst (pa_cons (pe_callB (call_isP List.mem_cons_self (KS.c i hi) hz hf) (by rfl) T.b_isinstance (by decide +kernel) (pa_cons (pv 0) (pa_cons (pe_glob (v := .ref (cs 4)) (by rfl) (KS.g 4 (by decide)) rfl) pa_nil))) (pa_cons (pe_callB (call_isP List.mem_cons_self (KS.c i hi) hz hf) (by rfl) T.b_isinstance (by decide +kernel) (pa_cons (pv 0) (pa_cons (pe_glob (v := .ref (cs 5)) (by rfl) (KS.g 5 (by decide)) rfl) pa_nil))) (pa_cons (pe_callB (call_isP List.mem_cons_self (KS.c i hi) hz hf) (by rfl) T.b_isinstance (by decide +kernel) (pa_cons (pv 0) (pa_cons (pe_glob (v := .ref (cs 6)) (by rfl) (KS.g 6 (by decide)) rfl) pa_nil))) pa_nil))))))
  (pss_cons (ps_set (i := 1) nd rfl (by first | exact Or.inl rfl | exact Or.inr rfl) (pe_op op_cat (pv 1) (pe_lst (pa_cons (pe_callB (call_isP List.mem_cons_self (KS.c i hi) hz hf) (by rfl) T.b_isinstance (by decide +kernel) (pa_cons (pv 0) (pa_cons (pe_glob (v := .ref (cs 7)) (by rfl) (KS.g 7 (by decide)) rfl) pa_nil))) (pa_cons (pe_callB (call_isP List.mem_cons_self (KS.c i hi) hz hf) (by rfl) T.b_isinstance (by decide +kernel) (pa_cons (pv 0) (pa_cons (pe_glob (v := .ref (cs 8)) (by rfl) (KS.g 8 (by decide)) rfl) pa_nil))) (pa_cons (pe_callB (call_isP List.mem_cons_self (KS.c i hi) hz hf) (by rfl) T.b_isinstance (by decide +kernel) (pa_cons (pv 0) (pa_cons (pe_glob (v := .ref (cs 9)) (by rfl) (KS.g 9 (by decide)) rfl) pa_nil))) (pa_cons (pe_callB (call_isP List.mem_cons_self (KS.c i hi) hz hf) (by rfl) T.b_isinstance (by decide +kernel) (pa_cons (pv 0) (pa_cons (pe_glob (v := .ref (cs 10)) (by rfl) (KS.g 10 (by decide)) rfl) pa_nil))) pa_nil)))))))
  (pss_cons (ps_set (i := 1) nd rfl (by first | exact Or.inl rfl | exact Or.inr rfl) (pe_op op_cat (pv 1) (pe_lst (pa_cons (pe_callB (call_isP List.mem_cons_self (KS.c i hi) hz hf) (by rfl) T.b_isinstance (by decide +kernel) (pa_cons (pv 0) (pa_cons (pe_glob (v := .ref (cs 11)) (by rfl) (KS.g 11 (by decide)) rfl) pa_nil))) (pa_cons (pe_callB (call_isP List.mem_cons_self (KS.c i hi) hz hf) (by rfl) T.b_isinstance (by decide +kernel) (pa_cons (pv 0) (pa_cons (pe_glob (v := .ref (cs 12)) (by rfl) (KS.g 12 (by decide)) rfl) pa_nil))) pa_nil)))))
  (pss_cons (ps_set (i := 2) nd rfl (by first | exact Or.inl rfl | exact Or.inr rfl) (pe_lst (pa_cons pe_str (pa_cons pe_str (pa_cons pe_str (pa_cons pe_str (pa_cons pe_str (pa_cons pe_str (pa_cons pe_str (pa_cons pe_str pa_nil))))))))))
  (pss_cons (ps_set (i := 2) nd rfl (by first | exact Or.inl rfl | exact Or.inr rfl) (pe_op op_cat (pv 2) (pe_lst (pa_cons pe_str (pa_cons pe_str (pa_cons pe_str (pa_cons pe_str (pa_cons pe_str pa_nil))))))))
  (pss_one (ps_ret (pe_ifExp (PW.pt (pw_and (pt_cmpR op_eq (pe_bm PySem.F.plainAttrs_list PySem.F.slot_list_count PySem.F.type_list_count mt_lcountV (pv 1) (pa_cons pe_bl pa_nil)) pe_int (nomark _)) (pw_and1 (pt_val (pe_callB (call_isP List.mem_cons_self (KS.c i hi) hz hf) (by rfl) T.b_isinstance (by decide +kernel) (pa_cons (pv 0) (pa_cons (pe_bltn (v := .ty "ValueError") (by rfl) TE.b_ValueError (by decide +kernel) rfl) pa_nil))))))) (pe_ix ix_list (pv 2) (pe_bm PySem.F.plainAttrs_list PySem.F.slot_list_index PySem.F.type_list_index mt_index (pv 1) (pa_cons pe_bl pa_nil)) (fun _ _ => rfl)) pe_str))))))))), ?_⟩
    refine ⟨_, rfl, .ref (cs 0), .ref (cs 0), _, rfl, (fun _ r => r), KS.k i 0 hi (by decide), keep (Same.refl H), _, rfl, .ref (cs 1), .ref (cs 1), _, rfl, (fun _ r => r), KS.k i 1 hi (by decide), keep (Same.refl H), _, rfl, .ref (cs 2), .ref (cs 2), _, rfl, (fun _ r => r), KS.k i 2 hi (by decide), keep (Same.refl H), _, rfl, .ref (cs 3), .ref (cs 3), _, rfl, (fun _ r => r), KS.k i 3 hi (by decide), keep (Same.refl H), (by show 4 ≤ sizeLine; decide), fun l1 n1 => ?_⟩
    suffices hh : ∀ H1, Same H H1 → H1 l1 = some (.lst (kb i 4)) → _ from hh _ (Same.upd n1) upd_same
    intro H1 s1 h1
    refine ⟨_, rfl, _, rfl, .ref (cs 4), .ref (cs 4), _, rfl, (fun _ r => r), KS.k i 4 hi (by decide), keep s1, _, rfl, .ref (cs 5), .ref (cs 5), _, rfl, (fun _ r => r), KS.k i 5 hi (by decide), keep s1, _, rfl, .ref (cs 6), .ref (cs 6), _, rfl, (fun _ r => r), KS.k i 6 hi (by decide), keep s1, (by show 3 ≤ sizeLine; decide), fun l2 n2 => ?_⟩
    refine ⟨l1, l2, _, _, rfl, rfl, Same.upd n2 _ _ h1, upd_same, (by show 4 + 3 ≤ sizeLine; decide), fun r2 nr2 => ?_⟩
    suffices hh : ∀ H2, Same H H2 → H2 r2 = some (.lst (kb i 7)) → _ from hh _ ((s1.upd' n2).upd' nr2) upd_same
    intro H2 s2 h2
    refine ⟨_, rfl, _, rfl, .ref (cs 7), .ref (cs 7), _, rfl, (fun _ r => r), KS.k i 7 hi (by decide), keep s2, _, rfl, .ref (cs 8), .ref (cs 8), _, rfl, (fun _ r => r), KS.k i 8 hi (by decide), keep s2, _, rfl, .ref (cs 9), .ref (cs 9), _, rfl, (fun _ r => r), KS.k i 9 hi (by decide), keep s2, _, rfl, .ref (cs 10), .ref (cs 10), _, rfl, (fun _ r => r), KS.k i 10 hi (by decide), keep s2, (by show 4 ≤ sizeLine; decide), fun l3 n3 => ?_⟩
    refine ⟨r2, l3, _, _, rfl, rfl, Same.upd n3 _ _ h2, upd_same, (by show 7 + 4 ≤ sizeLine; decide), fun r3 nr3 => ?_⟩
    suffices hh : ∀ H3, Same H H3 → H3 r3 = some (.lst (kb i 11)) → _ from hh _ ((s2.upd' n3).upd' nr3) upd_same
    intro H3 s3 h3
    refine ⟨_, rfl, _, rfl, .ref (cs 11), .ref (cs 11), _, rfl, (fun _ r => r), KS.k i 11 hi (by decide), keep s3, _, rfl, .ref (cs 12), .ref (cs 12), _, rfl, (fun _ r => r), KS.k i 12 hi (by decide), keep s3, (by show 2 ≤ sizeLine; decide), fun l4 n4 => ?_⟩
    refine ⟨r3, l4, _, _, rfl, rfl, Same.upd n4 _ _ h3, upd_same, (by show 11 + 2 ≤ sizeLine; decide), fun r4 nr4 => ?_⟩
    suffices hh : ∀ H4, Same H H4 → H4 r4 = some (.lst (kb i 13)) → _ from hh _ ((s3.upd' n4).upd' nr4) upd_same
    intro H4 s4 h4
    refine ⟨(by show 8 ≤ sizeLine; decide), fun w1 nw1 => ?_⟩
    refine ⟨_, rfl, (by show 5 ≤ sizeLine; decide), fun w2 nw2 => ?_⟩
    refine ⟨w1, w2, _, _, rfl, rfl, Same.upd nw2 _ _ upd_same, upd_same, (by show 8 + 5 ≤ sizeLine; decide), fun w3 nw3 => ?_⟩
    suffices hh : ∀ H5, Same H H5 → H5 r4 = some (.lst (kb i 13)) → H5 w3 = some (.lst (cnms.map V.str)) → _ from hh _ (((s4.upd' nw1).upd' nw2).upd' nw3) (Same.upd nw3 _ _ (Same.upd nw2 _ _ (Same.upd nw1 _ _ h4))) upd_same
    intro H5 s5 h5 hw5
    refine ⟨_, rfl, .inl ⟨rfl, _, SqL.of h5⟩, r4, _, _, rfl, rfl, SqL.of h5, rfl, kb_flat i 13, ?_⟩
    rw [kb_count i hi]
    refine ⟨rfl, _, rfl, ?_⟩
    refine ite2 (fun _ => ?_) (fun c => absurd rfl c)
    refine ⟨_, rfl, .ty "ValueError", .type "ValueError", _, rfl, (fun _ r => r), KS.v i hi, keep s5, _, rfl, ?_⟩
    refine ite2 (fun _ => ?_) (fun c => absurd rfl c)
    refine ⟨_, rfl, _, rfl, .inl ⟨rfl, _, SqL.of h5⟩, r4, kb i 13, .bl true, i, .bl true, rfl, rfl, SqL.of h5, rfl, kb_flat i 13, ?_, rfl, fun m z hm hz => ?_, ?_⟩
    · rw [kb_at hi, decide_eq_true rfl]
    · rw [kb_at (by omega)] at hz
      obtain rfl := Option.some.inj hz
      rw [decide_eq_false (by omega)]
      rfl
    · exact ⟨w3, _, _, _, rfl, rfl, SqL.of hw5, atI_nat (cnm_at hi), k _ s5⟩
end
end K3

set_option Elab.async false
set_option linter.all false
set_option maxRecDepth 100000
set_option maxHeartbeats 4000000
/-! KZ: what a lambda tells, or its refusal -/
namespace K3
open PySem PySem.Spec PyProof.Rows L2
theorem _root_.L2.PE.imp {X : Cx} {e : Expr} {t t' : TE} (h : PE X e t) (m : ∀ σ H Q, t' σ H Q → t σ H Q) : PE X e t' := ⟨fun pins s σ H Q I q => h.run pins s σ H Q I (m _ _ _ q)⟩
theorem op_in_seqK {X : Cx} {K : PySem.W.Frag} (e : X.K = K) : OpR X (compareOp .In) (rIn K false) := by
  subst e
  exact op_in_seq
def tClass (cs : Nat → Addr) (a : Addr) (cls : Value) (d : Option Addr) : TE := fun σ H Q => ∃ i, σ[1]? = some (some (.ref a)) ∧ i < 13 ∧ cls = .ref (cs i) ∧ (∀ dd, d = some dd → ∃ fs, H dd = some (.xd fs)) ∧ ∀ H', Same H H' → Q (.str (cnm i)) H'
/-- a refusal as the law tells it: its class's name, its place or 0 -/
def Told (cs : Nat → Addr) (cls : Value) (d : Option Addr) (H' : Hp) (Q : VK) : Prop := ∃ (i : Nat) (pl : Int), i < 13 ∧ cls = .ref (cs i) ∧
  ((i ≠ 1 ∧ i ≠ 5 ∧ i ≠ 12 ∧ d = none ∧ pl = 0) ∨ ((i = 1 ∨ i = 5 ∨ i = 12) ∧ ∃ dd fs, d = some dd ∧ H' dd = some (.xd fs) ∧ fs.lookup ("place" : Str) = some (V.int pl))) ∧
  ∀ (H'' : Hp) (t : Addr), Same H' H'' → H' t = none → H'' t = some (.tup [.str (cnm i), .int pl]) → Q (.ref t) H''
def TTd (cs : Nat → Addr) : (XK → Hp → VK → Prop) → Hp → VK → Prop := fun tl H Q => ∀ E : XK, (∀ cls d H', Told cs cls d H' Q → E cls d H') → tl E H Q
theorem place_in : ∀ {i : Nat}, i < 13 → inV (.str (cnm i)) [V.str "BadValues", V.str "BadRows", V.str "BadText"] = decide (i = 1 ∨ i = 5 ∨ i = 12) := by decide
abbrev s__law_told : Stmt := top 45
abbrev N__law_told : List Str := ["_law_work", "_law_e", "_law_word_here"]
abbrev P__law_told : List Str := ["_law_work"]
theorem sc__law_told : FnScope N__law_told P__law_told (defScope s__law_told) := ⟨rfl, rfl, rfl, by decide +kernel, rfl, by decide +kernel, by decide +kernel⟩
theorem told_gives {X : Cx} {k : Nat} {cs : Nat → Addr} {CE : Addr} {g : Addr} {cdg : Value} {q : Str} (KS : Kinds X.K X.mg cs CE) (G_class : Fnp X.prog X.w X.K X.mg X.base CX0 1 "_law_class" P__law_class (spClass X.K cs)) :
    GivesR X N__law_told "_law_told" (defScope s__law_told) g cdg (defBody s__law_told) "_law_work" q (k + 1) (TTd cs) := by
  intro f c' s H Q tl hr act hc h
  have nd := sc__law_told.nd
  have hrS : ∀ a, L2H.RoomH 1 (((cxOf C8.CX0 X.prog X.w X.K X.mg X.base N__law_told "_law_told" (defScope s__law_told) g cdg X.A X.stack s H C8.E0).nox).suite a []).A := fun a => ⟨(hr.mono (by omega : 1 ≤ k + 1)).dp, (hr.mono (by omega : 1 ≤ k + 1)).un⟩
  refine ⟨_, (pss_one (ps_try_as (i := 1) (c := .ref CE) (n := "_law_e") (Wout := fun _ _ _ _ => False) rfl rfl nd rfl rfl ⟨rfl, by decide, .inl KS.ge⟩ takes0 (fun W pn xe tk _ => pss_one (ps_ret (act W pn xe _ _ tk))) (fun a oe cls d pn hz hf => pss_cons (ps_set (i := 2) nd rfl (Or.inl rfl) (PE.imp (t' := tClass cs a cls d) (pe_cP (E := fun _ => C8.E0) G_class (hrS a) List.mem_cons_self (fun _ _ _ _ _ _ _ h => h.elim) (pa_cons (pv 1) pa_nil)) (fun σ H Q ⟨i, hs, hi, hc, hd, k⟩ => ⟨.ref a, hs, i, d, hi, rfl, by rw [← hc]; exact hz, hf, hd, k⟩))) (pss_one (ps_ret (pe_tup (pa_cons (pv 2) (pa_cons (pe_ifExp (pt_cmpR (op_in_seqK (K := X.K) rfl) (pv 2) (pe_tup (pa_cons pe_str (pa_cons pe_str (pa_cons pe_str pa_nil)))) (by rfl)) (pe_xfA hz hf (pv 1)) pe_int) pa_nil)))))))), ?_⟩
  refine ⟨rfl, hc, h _ fun cls d H' ⟨i, pl, hi, ec, hd, k⟩ => ?_⟩
  subst ec
  refine ⟨true, KS.m i hi, fun _ a na => ?_, fun z => Bool.noConfusion z⟩
  have keep : ∀ dd, d = some dd → ∃ fs, H' dd = some (.xd fs) := fun dd e => by
    rcases hd with ⟨_, _, _, e0, _⟩ | ⟨_, dd', fs, e1, h1, _⟩
    · rw [e0] at e
      cases e
    · rw [e1] at e
      cases e
      exact ⟨fs, h1⟩
  refine ⟨i, rfl, hi, rfl, keep, fun H2 s2 => ?_⟩
  refine ⟨_, rfl, _, rfl, (by show 3 ≤ sizeLine; decide), fun t3 n3 => ?_⟩
  have s3 := s2.trans (Same.upd (o := .tup [.str "BadValues", .str "BadRows", .str "BadText"]) n3)
  refine ⟨t3, _, rfl, .inr (SqT.of upd_same), rfl, rfl, _, rfl, ?_⟩
  have e := place_in hi
  show if inV (.str (cnm i)) [V.str "BadValues", V.str "BadRows", V.str "BadText"] = true then _ else _
  rw [e]
  rcases hd with ⟨h1, h5, h12, ed, ep⟩ | ⟨hp, dd, fs, ed, hdd, hf⟩
  · rw [decide_eq_false (by omega)]
    refine ite2 (fun z => Bool.noConfusion (show false = true from z)) (fun _ => ?_)
    refine ⟨(by show 2 ≤ sizeLine; decide), fun t nt => ?_⟩
    subst ep
    exact k _ t (s3.upd' nt) (s3.free nt) upd_same
  · rw [decide_eq_true hp]
    refine ite2 (fun _ => ?_) (fun z => absurd rfl z)
    obtain ⟨x1, x2⟩ := KS.xf i hp
    refine ⟨_, rfl, rfl, cs i, dd, fs, .int pl, x1, x2, rfl, ed, s3 _ _ hdd, hf, (by show 2 ≤ sizeLine; decide), fun t nt => ?_⟩
    exact k _ t (s3.upd' nt) (s3.free nt) upd_same
/-! ### what is looked at in the head -/
def excCB (K : PySem.W.Frag) (D : Addr) : Bool :=
  decide (PySem.W.findIn K (.ref D) "__getattribute__" = some (some (.builtin "BaseException.__getattribute__"))) && (decide (PySem.W.findIn K (.ref D) "__getattr__" = some none) && (decide (PySem.W.subIn K (.ref D) (.type "BaseException") = some true) && (PySem.W.hasDictIn K D &&
  (decide (PySem.W.findIn K (.ref D) "__class__" = some (some (.builtin "object.__class__"))) && (decide (PySem.W.specialIn K (.builtin "object.__class__") "__get__" = some (some (.builtin "getset_descriptor.__get__"))) && (decide (PySem.W.takesIn K (.builtin "object.__class__") = some true) && decide (PySem.W.mroIn K D (.type "object") = some true)))))))
theorem excCB_ok {K : PySem.W.Frag} {D : Addr} (h : excCB K D = true) : L2.ExcC K D := by
  obtain ⟨h1, h⟩ := Bool.and_eq_true_iff.mp h
  obtain ⟨h2, h⟩ := Bool.and_eq_true_iff.mp h
  obtain ⟨h3, h⟩ := Bool.and_eq_true_iff.mp h
  obtain ⟨h4, h⟩ := Bool.and_eq_true_iff.mp h
  obtain ⟨h5, h⟩ := Bool.and_eq_true_iff.mp h
  obtain ⟨h6, h⟩ := Bool.and_eq_true_iff.mp h
  obtain ⟨h7, h8⟩ := Bool.and_eq_true_iff.mp h
  exact ⟨of_decide_eq_true h1, of_decide_eq_true h2, of_decide_eq_true h3, h4, of_decide_eq_true h5, of_decide_eq_true h6, of_decide_eq_true h7, of_decide_eq_true h8⟩
def kindB (K : PySem.W.Frag) (cs : Nat → Addr) (CE : Addr) (i : Nat) : Bool :=
  excCB K (cs i) && ((List.range 13).all (fun j => decide (PySem.W.kitOne K (.ref (cs i)) (.ref (cs j)) = some (decide (i = j)))) && (decide (PySem.W.kitOne K (.ref (cs i)) (.type "ValueError") = some true) && (decide (PySem.W.exmOne K (.ref (cs i)) (.ref CE) = some true) &&
  (if i = 1 ∨ i = 5 ∨ i = 12 then xfB K (cs i) && decide (PySem.W.findIn K (.ref (cs i)) "place" = some none) else true))))
def kindsB (K : PySem.W.Frag) (cs : Nat → Addr) (CE : Addr) : Bool := (List.range 13).all (kindB K cs CE)
theorem kinds_of {K : PySem.W.Frag} {mg : Str → Option Value} {cs : Nat → Addr} {CE : Addr} (h : kindsB K cs CE = true) (g : ∀ i, i < 13 → mg (cnm i) = some (.ref (cs i))) (ge : mg "ColumnError" = some (.ref CE)) : Kinds K mg cs CE := by
  have key : ∀ i, i < 13 → kindB K cs CE i = true := fun i hi => List.all_eq_true.mp h i (List.mem_range.mpr hi)
  have part : ∀ i, i < 13 → L2.ExcC K (cs i) ∧ (∀ j, j < 13 → PySem.W.kitOne K (.ref (cs i)) (.ref (cs j)) = some (decide (i = j))) ∧ PySem.W.kitOne K (.ref (cs i)) (.type "ValueError") = some true ∧ PySem.W.exmOne K (.ref (cs i)) (.ref CE) = some true ∧ (i = 1 ∨ i = 5 ∨ i = 12 → XfC K (cs i) ∧ PySem.W.findIn K (.ref (cs i)) "place" = some none) := fun i hi => by
    obtain ⟨h1, h⟩ := Bool.and_eq_true_iff.mp (key i hi)
    obtain ⟨h2, h⟩ := Bool.and_eq_true_iff.mp h
    obtain ⟨h3, h⟩ := Bool.and_eq_true_iff.mp h
    obtain ⟨h4, h5⟩ := Bool.and_eq_true_iff.mp h
    refine ⟨excCB_ok h1, fun j hj => of_decide_eq_true (List.all_eq_true.mp h2 j (List.mem_range.mpr hj)), of_decide_eq_true h3, of_decide_eq_true h4, fun hp => ?_⟩
    rw [if_pos hp] at h5
    obtain ⟨h6, h7⟩ := Bool.and_eq_true_iff.mp h5
    exact ⟨xfB_ok h6, of_decide_eq_true h7⟩
  exact ⟨g, fun i hi => (part i hi).1, fun i j hi hj => (part i hi).2.1 j hj, fun i hi => (part i hi).2.2.1, fun i hi => (part i hi).2.2.2.1, ge, fun i hp => (part i (by omega)).2.2.2.2 hp⟩
end K3

set_option Elab.async false
set_option linter.all false
set_option maxRecDepth 100000
set_option maxHeartbeats 4000000
/-! KI: refusals with a place: their own __init__ -/
namespace K3
open PySem PySem.Spec PyProof.Rows L2
/-- the refusals' common class, whose __init__ is ValueError's -/
structure ExcB (K : PySem.W.Frag) (mg : Str → Option Value) (CE : Addr) : Prop where
  g : mg "ColumnError" = some (.ref CE)
  s : PySem.W.specialIn K (.ref CE) "__getattribute__" = some (some (.builtin "type.__getattribute__"))
  r : PySem.W.readsIn K CE (.type "type") = true
  f : PySem.W.findCls K (.ref CE) (.type "type") "__init__" = some (.val (.builtin "ValueError.__init__"))
/-- a class of refusals with a place -/
structure ExcP (K : PySem.W.Frag) (mg : Str → Option Value) (x : Str) (st : Stmt) (C : Addr) : Prop where
  g : mg x = some (.ref C)
  o : OexC K C
  nf : PySem.W.findIn K (.ref C) "place" = some none
  ex : ∃ (fI : Addr) (fd : FuncData), FunD K "__init__" (x ++ ".__init__") (defArgs st) (defBody st) (defScope st) [] [] fI fd ∧ Binds K fd ["self", "place"] [] ∧ PySem.W.findIn K (.ref C) "__init__" = some (some (.ref fI)) ∧ PySem.W.typeIn K (.ref fI) = some (.type "function")
section
variable {X : Cx} {e : Expr} {es : List Expr} {ta : TA} {x : Str} {p1 p2 pos : Pos} {CE : Addr}
/-- ColumnError.__init__(self, ..) -/
theorem pe_ceinit {pl : Sem Bool} (B : ExcB X.K X.mg CE) (hg : Gl X "ColumnError") (ha : PA X (e :: es) ta)
    (hc : eval (.Call (.Attribute (.Name "ColumnError" p1) "__init__" p2) (e :: es) [] pos) X.env = (do
      let ov ← eval (.Name "ColumnError" p1) X.env
      standAt p2.atName
      let (f, first) ← holding [ov] (getMethod ov "__init__" pl)
      callWith pos f first (backTo pos (starEach (e :: es) X.env)) (backToKw pos (keywordEach [] X.env))) := by rfl)
    (he : starEach (e :: es) X.env = (false, eval e X.env) :: starEach es X.env := by rfl) (hpl : (backTo pos (starEach es X.env)).any (·.1) = false := by rfl) :
    PE X (.Call (.Attribute (.Name "ColumnError" p1) "__init__" p2) (e :: es) [] pos) (tVeI X.K ta) := by
  refine ⟨fun pins s σ H Q I h => ?_⟩
  refine PySem.W.methodCall_KW (ld_glob I hg B.g ?_ (by decide)) hc
  refine PySem.W.method_cls I.kIn B.s (PySem.W.cls_value I.kIn B.r B.f (by decide +kernel) ?_)
  show wpAny _ _ (callWith pos (Value.builtin "ValueError.__init__") [] (backTo pos (starEach (e :: es) X.env)) []) _ _ _
  refine PyProof.Rows.callWith_method1 (thn (ha.run pos pins _ σ H _ (I.tok _) h) fun us s1 ⟨vs, H1, I1, r1, a, C, ws, ev, hl, T, ea, q⟩ => ?_) he hpl
  subst ev
  cases r1 with
  | @cons _ u0 _ ur ra rw' =>
    obtain rfl : u0 = Value.ref a := ra
    have hlen : ur.length ≤ sizeLine := by
      rw [← Paired.length rw', sizeLine_eq]
      omega
    exact oinit_ok T I1 ea hlen fun s' J => ⟨.non, H1, J, rfl, q⟩
end
section
variable {P : Program} {w : World} {K : PySem.W.Frag} {mg : Str → Option Value} {base : Heap}
def spInit (K : PySem.W.Frag) : Sp := fun vs H Q _ => ∃ (a C : Addr) (k : Int), vs = [.ref a, .int k] ∧ OexC K C ∧ PySem.W.findIn K (.ref C) "place" = some none ∧ H a = some (exo a C none) ∧ k.natAbs < 2 ^ 64 ∧
  ∀ d, H d = none → d ≠ a → Q .non (upd (upd H d (exd d [("place", .int k)])) a (exo a C (some d)))
abbrev s_BadValues : Stmt := inClass (top 3) 0
theorem sc_BadValues : FnScope ["self", "place"] ["self", "place"] (defScope s_BadValues) := ⟨rfl, rfl, rfl, by decide +kernel, rfl, by decide +kernel, by decide +kernel⟩
theorem ok_initV {CE C : Addr} (B : ExcB K mg CE) (D : ExcP K mg "BadValues" s_BadValues C) : ∃ (fI : Addr) (fd : FuncData), FnOk P w K mg base CX0 1 fI fd ["self", "place"] (spInit K) ∧ Binds K fd ["self", "place"] [] ∧ PySem.W.findIn K (.ref C) "__init__" = some (some (.ref fI)) ∧ PySem.W.typeIn K (.ref fI) = some (.type "function") := by
  obtain ⟨fI, fd, F, hb, h1, h2⟩ := D.ex
  refine ⟨fI, fd, F.ok sc_BadValues (fun vs H Q E h => ?_) fun cdv A outer s H vs Q E hr h => ?_, hb, h1, h2⟩
  · obtain ⟨a, C, k, rfl, _⟩ := h
    rfl
  · obtain ⟨a, C, k, rfl, T, hno, ha, hk, q⟩ := h
    have nd := sc_BadValues.nd
    refine ⟨_, pss_cons (ps_expr (pe_ceinit B rfl (pa_cons (pv 0) (pa_cons (pe_joined (.cons pe_str (.cons (pe_fmt (pv 1)) (.cons pe_str .nil)))) pa_nil)))) (pss_one (ps_ost (pv 0) (pv 1))), ?_⟩
    refine ⟨_, rfl, _, rfl, str_fits (str_add (show Str.empty.length ≤ 0 from Nat.le_refl 0) (show (Str.ofString "what stands at place ").length ≤ 21 by decide)) (by decide), _, rfl, .inr ⟨_, rfl, int_log hk, _, rfl, str_fits (str_add (str_add (show Str.empty.length ≤ 0 from Nat.le_refl 0) (show (Str.ofString "what stands at place ").length ≤ 21 by decide)) (int_len hk)) (by decide), _, rfl, str_fits (str_add (str_add (str_add (show Str.empty.length ≤ 0 from Nat.le_refl 0) (show (Str.ofString "what stands at place ").length ≤ 21 by decide)) (int_len hk)) (show (Str.ofString " is no value here").length ≤ 17 by decide)) (by decide), a, C, _, rfl, (by show 1 ≤ 1000; decide), T, ha, ?_⟩⟩
    exact ⟨_, rfl, _, rfl, a, C, rfl, T, hno, .inl ⟨ha, fun dx n ne => q dx n ne⟩⟩
/-- x(k) of such a class, made to be raised -/
theorem mk_pl {C : Addr} {H1 : Hp} {Q : XK} {k : Int} (o : OexC K C) (nf : PySem.W.findIn K (.ref C) "place" = some none) (hk : k.natAbs < 2 ^ 64) (h : ∀ d H2, Same H1 H2 → H1 d = none → H2 d = some (.xd [("place", .int k)]) → Q (.ref C) (some d) H2) :
    ([V.int k] : List V).length ≤ 1000 ∧ ∀ a, H1 a = none → spInit K (.ref a :: ([V.int k] ++ [])) (upd H1 a (exo a C none)) (fun v H2 => v = .non ∧ ∃ (d : Addr) (fs : List (Str × V)), H2 a = some (exo a C (some d)) ∧ H2 d = some (exd d fs) ∧ H1 d = none ∧ Q (.ref C) (some d) (upd (L2.del H2 a) d (.xd fs))) (fun _ _ _ => False) := by
  refine ⟨by show 1 ≤ 1000; decide, fun a na => ⟨a, C, k, rfl, o, nf, upd_same, hk, fun d nd hda => ?_⟩⟩
  have nd1 : H1 d = none := by rw [upd_ne hda] at nd; exact nd
  refine ⟨rfl, d, _, upd_same, (upd_ne hda).trans upd_same, nd1, h d _ (fun b u e => ?_) nd1 upd_same⟩
  rw [upd_ne (ne_of_none e nd1), del_ne (ne_of_none e na), upd_ne (ne_of_none e na), upd_ne (ne_of_none e nd1), upd_ne (ne_of_none e na)]
  exact e
end
section
variable {X : Cx} {x : Str} {C : Addr} {st : Stmt} {e : Expr} {ta : TE} {p pos : Pos}
theorem pmk_pl (D : ExcP X.K X.mg x st C) (F : ∃ (fI : Addr) (fd : FuncData), FnOk X.prog X.w X.K X.mg X.base CX0 1 fI fd ["self", "place"] (spInit X.K) ∧ Binds X.K fd ["self", "place"] [] ∧ PySem.W.findIn X.K (.ref C) "__init__" = some (some (.ref fI)) ∧ PySem.W.typeIn X.K (.ref fI) = some (.type "function"))
    (hr : Room 2 X.A) (he : PE X e ta) (hg : Gl X x := by rfl) (hdb : (x == ("__debug__" : Str)) = false := by decide) (hst : starEach [e] X.env = (false, eval e X.env) :: starEach [] X.env := by rfl) (hpl : (backTo pos (starEach [] X.env)).any (·.1) = false := by rfl) :
    PMk X (.Call (.Name x p) [e] [] pos) (tMkO C (spInit X.K) [] (tCons ta tNil)) := by
  obtain ⟨fI, fd, F1, hb, h1, h2⟩ := F
  exact pmk_oex D.o h1 h2 F1 hr hb .nil pass0 hg D.g (pa_cons he pa_nil hst) hdb hst hpl
end
end K3

set_option Elab.async false
set_option linter.all false
set_option maxRecDepth 100000
set_option maxHeartbeats 4000000
/-! KT: enumerate of a tuple, or of either -/
namespace PySem
open Sem (wp)
set_option maxHeartbeats 4000000 in
theorem k3_enum_new {v : Value} {o : Obj} {H : Heap → Prop} (B : Begins v o H) :
    Meets (Builtin.«enumerate.__new__» ⟨[.type "enumerate", v], []⟩) (fun _ R s => H s.heap ∧
      R (.ok (.ret (.ref (s.heap.push o).objs.size))) { s with heap := (s.heap.push o).push { cls := .type "enumerate", data := .fields #[.none, .bool false, .ref s.heap.objs.size, rawInt 0, .none, .none] } }) :=
  .of_wp fun prog w A R s h => by
    obtain ⟨hp, g, d, tk, os⟩ := s
    obtain ⟨h1, h⟩ := h
    have hsub := sub_enumerate
    have q1 : ∀ {A' : Around} {E : Value → Shared → Prop} {Q : Value → Shared → Prop}, Q (.ref hp.objs.size) ⟨hp.push o, g, d, tk, os⟩ → wpAny (model prog w) A' (pyIter v) Q E ⟨hp, g, d, tk, os⟩ := fun q => B.iter prog w _ _ ⟨hp, g, d, tk, os⟩ _ h1 q
    wp_walk using q1
    refine wpAny_stack_any fun st => wpAny_pure ?_
    split
    · rename_i c _ _ _ _ _
      cases (c == Value.type "enumerate")
      · wp_walk using q1
        exact ⟨_, rfl, h⟩
      · wp_walk using q1
        exact ⟨_, rfl, h⟩
    · wp_walk using q1
      exact ⟨_, rfl, h⟩
theorem k3_call_enum {prog : Program} {w : World} {A : Around} {E : Value → Shared → Prop} {s : Shared} {v : Value} {o : Obj} {H : Heap → Prop} {Q : Value → Shared → Prop} (B : Begins v o H) (h1 : H s.heap)
    (h : ∀ h', IsEnum h' (s.heap.objs.size + 1) s.heap.objs.size 0 .none → h'.get? s.heap.objs.size = some o → (∀ b o, s.heap.get? b = some o → h'.get? b = some o) → Q (.ref (s.heap.objs.size + 1)) { s with heap := h' }) :
    wpAny (model prog w) A (call (.type "enumerate") [v]) Q E s := by
  refine callType_new F.called_enumerate (by decide) (F.typeCall_enumerate_1 _) (F.newCall_enumerate_1 _) (fun obj => F.args_object_init_2 obj _) F.entry_enumerate_new (k3_enum_new B) ⟨h1, ?_⟩
  have hz : (s.heap.push o).objs.size = s.heap.objs.size + 1 := Heap.size_push ..
  show _ ∧ _
  rw [hz]
  have he : IsEnum ((s.heap.push o).push { cls := .type "enumerate", data := .fields #[.none, .bool false, .ref s.heap.objs.size, rawInt 0, .none, .none] }) (s.heap.objs.size + 1) s.heap.objs.size 0 .none := by
    have := Heap.get?_push_size (s.heap.push o) (o := { cls := .type "enumerate", data := .fields #[.none, .bool false, .ref s.heap.objs.size, rawInt 0, .none, .none] }) rfl
    rw [hz] at this
    exact this
  exact ⟨⟨_, he, rfl⟩, h _ he (Heap.get?_push_of_some _ (Heap.get?_push_size _ B.free)) fun b o x => Heap.get?_push_of_some _ (Heap.get?_push_of_some _ x)⟩
end PySem
namespace K3
open PySem PySem.Spec PyProof.Rows L2
/-- the tuple at a, each item in a new pair -/
def IteT (K : PySem.W.Frag) (a : Addr) : It :=
  ⟨fun i H => ∃ (xs : List V) (x : V), SqT K H a xs ∧ xs[i]? = some x, fun i H v H' => ∃ T x, v = .ref T ∧ H T = none ∧ H' = L2.upd H T (.tup [.int (i : Nat), x]) ∧ ∀ xs, SqT K H a xs → xs[i]? = some x, fun i H => ∃ xs : List V, SqT K H a xs ∧ xs.length ≤ i⟩
theorem turn_enumT {P : Program} {w : World} {K : PySem.W.Frag} {elts : List Expr} {kk : Nat} {tpos : Pos} (a e it : Addr) :
    Turn P w K (.Tuple elts kk tpos) (IteT K a) [e, it] e (fun i h => (∃ old, IsEnum h e it ((i : Nat) : Int) old) ∧ h.IsTupleIter it a i ∧ e ≠ it) where
  mem := by simp
  obj := fun i h st b hb => by
    obtain ⟨⟨old, he⟩, ⟨o, ho, hc, hd⟩, _⟩ := st
    have e' : b = e ∨ b = it := by simpa using hb
    rcases e' with z | z
    · rw [z]
      exact ⟨_, he, fun v q => nomatch q⟩
    · rw [z]
      exact ⟨o, ho, fun v q => by rw [hd] at q; cases q⟩
  keep := fun i h h' st k => let ⟨⟨old, he⟩, hi, hne⟩ := st; ⟨⟨old, k e (by simp) _ he⟩, hi.at fun o q => k it (by simp) o q, hne⟩
  item := by
    intro X hP hw hK hc i pins s σ H E I hf st hg
    subst hP hw hK
    obtain ⟨⟨old, he⟩, hit, hne⟩ := st
    obtain ⟨xs, x, hq, hx⟩ := hg
    obtain ⟨its, rv, p, hz⟩ := I.tuple hq
    obtain ⟨u, hu, ru⟩ := rv.get hx
    have p' : s.heap.IsTuple a its.toArray := p
    have hel : e < s.heap.objs.size := Heap.lt_size he
    have hil : it < s.heap.objs.size := by obtain ⟨_, q, _⟩ := hit; exact Heap.lt_size q
    have hai : a ≠ it := fun z => by
      obtain ⟨o1, e1, c1, _⟩ := p'
      obtain ⟨o2, e2, c2, _⟩ := hit
      rw [z, e2] at e1
      cases e1
      rw [c2] at c1
      exact absurd (Value.type.inj c1) (by decide)
    have hae : a ≠ e := fun z => by
      obtain ⟨o1, e1, c1, _⟩ := p'
      rw [z, show s.heap.get? e = _ from he] at e1
      cases e1
      exact absurd (Value.type.inj c1) (by decide)
    have hlt : i < its.toArray.size := by
      have := (List.getElem?_eq_some_iff.mp hu).1
      simpa using this
    refine wpAny_pyNext_enum_itemD (Draws.tuple (show X.A.in1.handled = none from I.ok.hd hc) it a hai its.toArray) he ⟨hit, p'⟩ hlt hne (by simp [hne, Ne.symm hae]) fun y h' tk hy ho hit' hT hsz hk => ?_
    obtain rfl : u = y := by
      have h2 : its[i]? = some y := by simpa using hy
      rw [hu] at h2
      exact Option.some.inj h2
    refine ⟨_, rfl, wpAny_letOwnedTupleGo_enum (s := { s with heap := h', toks := tk + 1 }) ho fun h'' he' sb => ?_⟩
    have hT2 : h''.get? s.heap.objs.size = some { cls := .type "tuple", data := .seq #[.int i tk, u] } := (sb.2 _ (Nat.ne_of_gt hel)).trans hT
    have new : ObjOk X.prog X.w (L2.upd H s.heap.objs.size (.tup [.int (i : Nat), x])) h'' s.heap.objs.size (.tup [.int (i : Nat), x]) :=
      ⟨by show 2 ≤ sizeLine; decide, [.int i tk, u], .cons ⟨_, rfl⟩ (.cons ru .nil), ⟨_, hT2, rfl, _, rfl⟩⟩
    have I1 : Inv X pins σ (L2.upd H s.heap.objs.size (.tup [.int (i : Nat), x])) { s with heap := h'', toks := tk + 1 } :=
      I.turnedNew (ch := [e, it]) (fun b ob hb q => (sb.2 b (fun z => hb (by simp [z]))).trans (hk b ob (fun z => hb (by simp [z])) (fun z => hb (by simp [z])) q)) hf (Nat.le_refl _) new
    refine ⟨.ref s.heap.objs.size, _, I1, rfl, ⟨_, x, rfl, I.hok.fresh (Nat.le_refl _), rfl, fun ys hy => by rw [I.tuple_inj hy hq]; exact hx⟩, ⟨⟨u, ?_⟩, hit'.1.at fun o q => (sb.2 it (Ne.symm hne)).trans q, hne⟩, fun b hb => ?_⟩
    · have e1 : ((i + 1 : Nat) : Int) = (i : Int) + 1 := by omega
      rw [e1]
      exact he'
    · have hb' : b < s.heap.objs.size := by
        have e' : b = e ∨ b = it := by simpa using hb
        rcases e' with z | z
        · rw [z]; exact hel
        · rw [z]; exact hil
      rw [upd_ne (Nat.ne_of_lt hb')]
      exact (hf b hb).1
  done := by
    intro X hP hw hK hc i pins s σ H E I hf st hg
    subst hP hw hK
    obtain ⟨⟨old, he⟩, hit, hne⟩ := st
    obtain ⟨xs, hq, hx⟩ := hg
    obtain ⟨its, rv, p, hz⟩ := I.tuple hq
    obtain ⟨f0, f1, f2, f3, f4, f5⟩ := hf it (by simp)
    have hl := rv.length
    have p' : s.heap.IsTuple a its.toArray := p
    have D : Draws X.prog X.w X.A.in1 it [it, a] i (fun _ _ => True) (fun j h => j = i ∧ h.IsTupleIter it a i ∧ h.IsTuple a its.toArray) :=
      ⟨fun _ _ st => let ⟨o, ho, _⟩ := st.2.1; ⟨o, ho⟩, fun _ _ _ st hk => ⟨st.1, st.2.1.at fun o e => hk it (by simp) o e, st.2.2.at fun o e => hk a (by simp) o e⟩, fun j s Q E hj st _ => absurd st.1 (Nat.ne_of_lt hj), fun s Q E st hE => wpAny_nextOf_tuple_end (show X.A.in1.handled = none from I.ok.hd hc) st.2.1 st.2.2 (by simp; omega) hE⟩
    exact wpAny_pyNext_enum_endD D he ⟨rfl, hit, p'⟩ fun h' eb => ⟨rfl, I.turned (t' := s.toks) (fun b o hb q => eb b o hb q) f0 f1 f3 f4 f5⟩
  self := fun A i s Q E st h => let ⟨⟨_, he⟩, _⟩ := st; wpAny_pyIter_enum he h
theorem walk_enumT {K : PySem.W.Frag} {a : Addr} {xs : List V} : Walk (IteT K a) xs.length (fun H => SqT K H a xs) (YPair (fun i => some (.int (i : Nat))) (fun i => xs[i]?)) := by
  refine ⟨fun i _ hi q => ⟨xs, xs[i], q, by simp [hi]⟩, fun _ q => ⟨xs, q, Nat.le_refl _⟩, fun i H v H' _ q y => ?_⟩
  obtain ⟨T, x, h1, h2, h3, h4⟩ := y
  exact ⟨T, .int (i : Nat), x, h1, h2, h3, rfl, h4 xs q⟩
/-- a list or a tuple -/
def SqS (K : PySem.W.Frag) (H : Hp) (a : Addr) (xs : List V) : Prop := SqL K H a xs ∨ SqT K H a xs
theorem SqS.same {K : PySem.W.Frag} {H H' : Hp} {a : Addr} {xs : List V} (h : SqS K H a xs) (s : Same H H') : SqS K H' a xs := h.elim (fun h => .inl (s.seq h)) fun h => .inr (s.seqT h)
def iEnumS (K : PySem.W.Frag) (ta : TA) : TI := fun σ H R => ta σ H fun vs H1 => ∃ a, vs = [.ref a] ∧ ((∃ xs, SqL K H1 a xs ∧ R (Ite K a) H1) ∨ (∃ xs, SqT K H1 a xs ∧ R (IteT K a) H1))
theorem pi_enumS {X : Cx} {e : Expr} {ta : TA} {p pos tpos : Pos} {elts : List Expr} {kk : Nat} (hg : Gl X "enumerate") (hm : X.mg "enumerate" = none) (ha : PA X [e] ta) (hs : starEach [e] X.env = [(false, eval e X.env)] := by rfl) :
    PI X (.Tuple elts kk tpos) (.Call (.Name "enumerate" p) [e] [] pos) (iEnumS X.K ta) := by
  refine ⟨fun pins s σ H R I h => ?_⟩
  refine Call_ (ld_blt I hg hm boot_enumerate (PyProof.Rows.callWith_type1 (thn (ha.run pos pins s σ H _ I h) fun us s1 ⟨vs, H1, I1, r1, q1⟩ => ?_) hs rfl))
  obtain ⟨a, ex, q⟩ := q1
  subst ex
  have fpK : ∀ b ∈ [s1.heap.objs.size + 1, s1.heap.objs.size], FpOk X pins H1 b := fun b hb => by
    have e' : b = s1.heap.objs.size + 1 ∨ b = s1.heap.objs.size := by simpa using hb
    have hle : s1.heap.objs.size ≤ b := by
      rcases e' with z | z
      · rw [z]; exact Nat.le_add_right _ _
      · rw [z]; exact Nat.le_refl _
    exact I1.fpOk hle (I1.hok.fresh hle)
  cases r1 with
  | cons r rr =>
    cases rr
    cases r
    rcases q with ⟨xs, hq, q⟩ | ⟨xs, hq, q⟩
    · obtain ⟨its, rv, p', hz⟩ := I1.list hq
      refine call_enumerate_list p'.isList fun h' he hit hsz hk => wpAny_pyIter_enum he ?_
      have I2 : Inv X pins σ H1 { s1 with heap := h' } := I1.kept (t' := s1.toks) hk
      exact ⟨s1.heap.objs.size + 1, [s1.heap.objs.size + 1, s1.heap.objs.size], _, _, H1, rfl, I2, turn_enum a (s1.heap.objs.size + 1) s1.heap.objs.size, ⟨⟨.none, he⟩, hit, Nat.succ_ne_self _⟩, fpK, q⟩
    · obtain ⟨its, rv, p', hz⟩ := I1.tuple hq
      refine k3_call_enum (begins_tuple a its.toArray) (show s1.heap.IsTuple a its.toArray from p') fun h' he hit hk => wpAny_pyIter_enum he ?_
      have I2 : Inv X pins σ H1 { s1 with heap := h' } := I1.kept (t' := s1.toks) hk
      exact ⟨s1.heap.objs.size + 1, [s1.heap.objs.size + 1, s1.heap.objs.size], _, _, H1, rfl, I2, turn_enumT a (s1.heap.objs.size + 1) s1.heap.objs.size, ⟨⟨.none, he⟩, ⟨_, hit, rfl, rfl⟩, Nat.succ_ne_self _⟩, fpK, q⟩
end K3

set_option Elab.async false
set_option linter.all false
set_option maxRecDepth 100000
set_option maxHeartbeats 4000000
/-! KN: lambdas in a list, each told -/
namespace K3
open PySem PySem.Spec PyProof.Rows L2
section
variable {Z : Cx} {W : WX} {k i : Nat} {f : Addr} {a : Str} {tl : XK → Hp → VK → Prop} {p1 p2 : Pos}
/-- x(), x a lambda whose maker's cells stand in the base -/
theorem pe_actB (C : CallB Z.prog Z.w Z.K Z.mg Z.base k f tl) (tk : Takes Z W) (hr : Room k Z.A) (hN : Z.N[i]? = some a) (hv : Vis Z.env.scope a) (hd : (a == ("__debug__" : Str)) = false := by decide) (hcd : (a == ("__classdict__" : Str)) = false := by decide) :
    PE Z (.Call (.Name a p1) [] [] p2) (fun σZ HZ Q => σZ[i]? = some (some (.ref f)) ∧ tl (WE W σZ) HZ Q) := by
  refine ⟨fun pinsZ sZ σZ HZ Q IZ h => ?_⟩
  obtain ⟨hs, ht⟩ := h
  refine wpAny_Call_Name_kw (thn ((pe_var (pos := p1) (i := i) hN hv hd hcd).run pinsZ sZ σZ HZ (fun v H1 => v = .ref f ∧ H1 = HZ) IZ ⟨.ref f, hs, rfl, rfl⟩) fun u s1 ⟨v, H1, I1, r1, q1⟩ => ?_)
  obtain ⟨ev, eH⟩ := q1
  subst ev
  rw [eH] at I1
  obtain rfl : u = Value.ref f := r1
  obtain ⟨hfn, rc⟩ := C Z.A Z.stack s1 HZ Q (WE W σZ) hr I1.env0 ht
  refine PySem.W.callWith_F0 hfn ?_
  have hx : PassesAt (L2.CX Z.prog Z.w) Z σZ (WE W σZ) := passAt tk σZ
  refine wpAny_call (codeAny_mono rc fun r s' hq => ?_)
  cases r with
  | error e => exact hx pinsZ HZ s1 e s' I1 hq
  | ok fl =>
    cases fl with
    | ret u => exact I1.after hq
    | next => exact False.elim hq
    | brk => exact False.elim hq
    | cont => exact False.elim hq
end
section
variable {X : Cx} {k : Nat} {ps : List Str} {sp : Heap → Sp} {x : Str} {q pos : Pos} {e : Expr} {es : List Expr} {t : TA}
/-- a call of a def that gets lambdas of the caller: it promises over any base -/
theorem pe_callL (F : ∀ b, Fn X.prog X.w X.K X.mg b CX0 k x ps (sp b)) (hr : Room k X.A) (hfn : ∀ x, X.fn x = true) (ha : PA X (e :: es) t) (hg : Gl X x := by rfl)
    (hdb : (x == ("__debug__" : Str)) = false := by decide) (he : starEach (e :: es) X.env = (false, eval e X.env) :: starEach es X.env := by rfl) (hpl : (backTo pos (starEach es X.env)).any (·.1) = false := by rfl) :
    PE X (.Call (.Name x q) (e :: es) [] pos) (fun σ H Q => t σ H fun vs H1 => ∀ b, LamsOk X σ b → sp b vs H1 Q C8.E0) := by
  obtain ⟨f0, fd0, G0, hm, hk, _⟩ := (F X.base).ex
  refine ⟨fun pins s σ H Q I h => ?_⟩
  refine wpAny_Call_Name_kw (ld_glob I hg hm ?_ hdb)
  refine PySem.W.callWith_K (h₀ := X.base) I.ok.mod.kin hk (thn (ha.run pos pins s σ H _ I h) fun us s1 ⟨vs, H1, I1, r, hq⟩ => ⟨I1.kIn, ?_⟩) he hpl
  have hq := hq _ (lams_ok I1 hfn)
  obtain ⟨f, fd, G, hm', hk', hb⟩ := (F (bigB X H1 s1.heap)).ex
  rw [hm] at hm'
  cases hm'
  have hl : us.length = ps.length := by rw [← r.length]; exact G.len _ _ _ _ hq
  have b := hb s1 us I1.kIn (by rw [List.append_nil]; exact hl)
  rw [List.append_nil] at b
  refine wpAny_call (codeAny_mono (G.run X.A X.stack s1 H1 ⟨us, []⟩ us vs Q C8.E0 hr (bigB_env0 I1).2 b r hq) fun r s' hq => ?_)
  cases r with
  | error e => exact (show False from hq).elim
  | ok fl =>
    cases fl with
    | ret u => exact I1.after hq
    | next => exact False.elim hq
    | brk => exact False.elim hq
    | cont => exact False.elim hq
end
/-- a comprehension of one name with an if -/
theorem lc_ifL {J : It} {n : Nat} {G : Hp → Prop} {Y : Nat → Hp → V → Hp → Prop} (w : Walk J n G Y) {j : Nat} {tt : TT} {te : TE} {σ : L2.St} {H1 : Hp} {D : Addr} {Qd : Hp → Prop} (Pv : Nat → Hp → Prop) (h0 : Pv 0 (L2.upd H1 D (.lst []))) (hG : ∀ i H, i ≤ n → Pv i H → G H)
    (hs : ∀ i x H H', i < n → Pv i H → Y i H x H' → tt (σ.set j (some x)) H' fun b H3 => if b = true then te (σ.set j (some x)) H3 fun y H4 => ∃ acc, H4 D = some (.lst acc) ∧ acc.length < sizeLine ∧ Pv (i + 1) (L2.upd H4 D (.lst (acc ++ [y]))) else Pv (i + 1) H3) (hd : ∀ H, Pv n H → Qd H) :
    ∃ W : Nat → Nat → Hp → Prop, (∃ m, W 0 m (L2.upd H1 D (.lst []))) ∧ ∀ i m H, W i m H →
      (J.stop i H ∧ Qd H) ∨ (J.go i H ∧ ∃ Nx : Hp → Prop, (∀ H', Nx H' → ∃ m', m' < m ∧ W (i + 1) m' H') ∧ ∀ x H', J.yld i H x H' → gName j x (wipe σ [j]) H' fun σ2 H2 => wipe σ2 [j] = wipe σ [j] ∧ tt σ2 H2 fun b H3 =>
        if b = true then te σ2 H3 fun y H4 => ∃ acc, H4 D = some (.lst acc) ∧ acc.length < sizeLine ∧ Nx (L2.upd H4 D (.lst (acc ++ [y]))) else Nx H3) := by
  refine lc_it w Pv h0 hG (fun i x H H' hi p y => ?_) hd
  have q := hs i x H H' hi p y
  have e : (wipe σ [j]).set j (some x) = σ.set j (some x) := by
    show (σ.set j none).set j (some x) = σ.set j (some x)
    rw [List.set_set]
  refine ⟨?_, ?_⟩
  · show ((σ.set j none).set j (some x)).set j none = σ.set j none
    rw [List.set_set, List.set_set]
  · show tt ((wipe σ [j]).set j (some x)) H' (fun b H3 => if b = true then te ((wipe σ [j]).set j (some x)) H3 (fun y H4 => ∃ acc, H4 D = some (.lst acc) ∧ acc.length < sizeLine ∧ Pv (i + 1) (L2.upd H4 D (.lst (acc ++ [y])))) else Pv (i + 1) H3)
    rw [e]
    exact q
/-- a lambda that may be called: it tells T by the law's way -/
structure WorkOk (P : Program) (w : World) (K : PySem.W.Frag) (mg : Str → Option Value) (base : Heap) (k : Nat) (cs : Nat → Addr) (f : Addr) (H : Hp) (T : Hp → VK → Prop) : Prop where
  ex : ∃ (c' : Addr) (q : Str) (tl : XK → Hp → VK → Prop), H c' = some (LamX.CodeO c' q) ∧ CallB P w K mg base k f tl ∧ ∀ H' Q, Same H H' → T H' Q → TTd cs tl H' Q
theorem work_of {X : Cx} {σ : L2.St} {b' : Heap} {cs : Nat → Addr} {params : Arguments} {body : Expr} {scope : Scope} {ps : List Str} {dvs : List V} {k : Nat} {t : XK → TE} {f c' : Addr} {H : Hp} {T : Hp → VK → Prop} (LB : LamsOk X σ b') (L : LamAt X H f c' params body scope dvs) (hL : LamP X.N X.env.scope scope ps) (hB : LamB params body scope ps dvs)
    (hbody : ∀ (A : Around) (outer : List Env) (s : Shared) (H : Hp) (E : XK), Room k (A.deeper (LamX.lamEnv X scope s.heap.objs.size f c')) → PE (LamX.lamCx X A outer s H E scope f c') body (t E))
    (hT : ∀ (H' : Hp) (Q : VK) (E : XK), Same H H' → T H' Q → (∀ cls d H'', Told cs cls d H'' Q → E cls d H'') → t E σ H' Q) : WorkOk X.prog X.w X.K X.mg b' (k + 1) cs f H T := by
  obtain ⟨dV, h1, h2, h3⟩ := id L
  exact ⟨c', _, _, h2, LB.2 hL hB hbody, fun H' Q s' Tt E hE => ⟨L.same s', hT H' Q E s' Tt hE⟩⟩
section
variable {P : Program} {w : World} {K : PySem.W.Frag} {mg : Str → Option Value} {base : Heap}
def spTold (P : Program) (w : World) (K : PySem.W.Frag) (mg : Str → Option Value) (k : Nat) (cs : Nat → Addr) (base : Heap) : Sp := fun vs H Q _ => ∃ (f : Addr) (T : Hp → VK → Prop) (H0 : Hp), vs = [.ref f] ∧ WorkOk P w K mg base (k + 1) cs f H0 T ∧ Same H0 H ∧ T H Q
theorem ok_toldB {k : Nat} {cs : Nat → Addr} {CE : Addr} (KS : Kinds K mg cs CE) (G_class : Fnp P w K mg base CX0 1 "_law_class" P__law_class (spClass K cs)) (D : Df K mg "_law_told" s__law_told P__law_told) :
    Fn P w K mg base CX0 (k + 2) "_law_told" P__law_told (spTold P w K mg k cs base) := by
  refine D.ok sc__law_told (fun vs H Q E h => ?_) (fun f cdv A outer s H vs Q E hr h => ?_)
  · obtain ⟨f, T, H0, rfl, _⟩ := h
    rfl
  · obtain ⟨f', T, H0, rfl, ⟨c', q, tl, hc, C, hT⟩, s0, h⟩ := h
    exact told_gives (X := { cxOf CX0 P w K mg base N__law_told "_law_told" (defScope s__law_told) f cdv A outer s H E with A := A, stack := outer }) (q := q) KS G_class f' c' s H Q tl hr
      (fun W pn xe p1 p2 tk => (pe_actB (i := 0) C tk hr rfl (.inl rfl)).imp fun σ H Q ⟨h1, _, h3⟩ => ⟨h1, h3⟩) (s0 _ _ hc) (hT _ _ s0 h)
abbrev s__law_all : Stmt := top 46
abbrev N__law_all : List Str := ["_law_works", "_law_due_here", "_law_work"]
abbrev P__law_all : List Str := ["_law_works", "_law_due_here"]
theorem sc__law_all : FnScope N__law_all P__law_all (defScope s__law_all) := ⟨rfl, rfl, rfl, by decide +kernel, rfl, by decide +kernel, by decide +kernel⟩
def spAll (P : Program) (w : World) (K : PySem.W.Frag) (mg : Str → Option Value) (k n : Nat) (cs : Nat → Addr) (base : Heap) : Sp := fun vs H Q _ => ∃ (p q : Addr) (fs : List Addr), vs = [.ref p, .ref q] ∧ SqL K H p (fs.map V.ref) ∧ fs.length ≤ 1000 ∧
  (∀ f ∈ fs, WorkOk P w K mg base (k + 1) cs f H fun H' Q' => ∀ (v : V) (H'' : Hp), Same H' H'' → (∃ m, m < n ∧ Alk K H'' m v (.ref q)) → Q' v H'') ∧ ∀ H', Same H H' → Q (.bl true) H'
theorem ok_allB {k n : Nat} {cs : Nat → Addr} (hk : 1 + n ≤ k + 2) (T : Txt mg) (G_told : Fn P w K mg base CX0 (k + 2) "_law_told" P__law_told (spTold P w K mg k cs base)) (G_alike : Fn P w K mg base CX0 (1 + n) "_law_alike" P__law_alike (spAlike K n))
    (D : Df K mg "_law_all" s__law_all P__law_all) : Fn P w K mg base CX0 (k + 3) "_law_all" P__law_all (spAll P w K mg k n cs base) := by
  refine D.ok sc__law_all (fun vs H Q E h => ?_) (fun f cdv A outer s H vs Q E hr h => ?_)
  · obtain ⟨p, q, fs, rfl, _⟩ := h
    rfl
  · obtain ⟨p, q, fs, rfl, hS, hl, hW, k⟩ := h
    have nd := sc__law_all.nd
    have hr1 := hr
    have hr2 := hr.mono hk
    refine ⟨_, (pss_one (ps_ret (pe_cmpR (op_eqIs hr.units) (pe_lc (own := [("_law_work", 2)]) (g := gName 2) (by rfl) nd  (pi_list (pv 0)) (blkOk_by (own := [("_law_work", 2)]) (N := N__law_all) (sc := defScope s__law_all) (by decide +kernel)) (fun _ _ _ _ _ => pg_name (i := 2) nd rfl (Or.inl rfl)) (fun _ _ _ _ _ => pts_one (pt_not (pt_val (pe_c G_alike hr2 pass0 (pa_cons (pe_c G_told hr1 pass0 (pa_cons (pv 2) pa_nil)) (pa_cons (pv 1) pa_nil)))))) (fun _ _ _ _ _ => (pv 2))) (pe_lst pa_nil) (nomark _)))), ?_⟩
    refine ⟨_, rfl, p, rfl, ⟨_, hS⟩, fun D0 nD => ?_⟩
    refine lc_ifL (walk_list (xs := fs.map V.ref)) (fun m H' => Same H H' ∧ H' D0 = some (.lst [])) ⟨Same.upd nD, upd_same⟩ (fun _ _ _ h => h.1.seq hS) ?_ ?_
    · rintro m x H3 H3' hm ⟨s3, hD⟩ ⟨rfl, e⟩
      obtain ⟨f, hf, rfl⟩ := map_at e
      refine ⟨_, rfl, f, _, H, rfl, hW f (List.mem_of_getElem? hf), s3, fun v H4 s4 ⟨m', hm', hA⟩ => ?_⟩
      refine ⟨_, rfl, v, .ref q, rfl, m', hm', hA, _, rfl, ?_⟩
      exact ⟨s3.trans s4, s4 _ _ hD⟩
    · rintro H3 ⟨s3, hD⟩
      refine ⟨Nat.zero_le _, fun l nl => ?_⟩
      refine ⟨D0, l, [], [], rfl, rfl, SqL.of (Same.upd nl _ _ hD), SqL.of upd_same, ?_⟩
      exact k _ (s3.upd' nl)
end
end K3

set_option Elab.async false
set_option linter.all false
set_option maxRecDepth 100000
set_option maxHeartbeats 4000000
/-! KJ: what is looked at in the head for refusals with a place -/
namespace K3
open PySem PySem.Spec PyProof.Rows L2
def oexClsB (K : PySem.W.Frag) (C : Addr) : Bool := match K.lookup C with
  | some ⟨.type "type", _, .cls cd, sl⟩ => (match cd.mro, sl.toList with
    | .ref C' :: bm, [_, _, _, _, some (.builtin n), _] => C' == C && n == "ValueError.__new__" && !cd.hasDel && cd.hasDict && PySem.HandSPX.refsVE bm
    | _, _ => false)
  | _ => false
theorem oexCls_ok {K : PySem.W.Frag} {C : Addr} (q : oexClsB K C = true) : ∃ nm q N bs bm sn sub ab col dd k0 k1 k2 k3 k5, K.lookup C = some (excClassObj nm q C N bs bm true sn sub ab col dd k0 k1 k2 k3 k5 "ValueError.__new__") ∧ PySem.HandSPX.refsVE bm = true := by
  unfold oexClsB at q
  split at q
  · rename_i dd cd sl ho
    split at q
    · rename_i C' bm k0 k1 k2 k3 n k5 hm hs
      simp only [Bool.and_eq_true, beq_iff_eq, Bool.not_eq_true'] at q
      obtain ⟨⟨⟨⟨e1, e2⟩, hdel⟩, hdict⟩, ht⟩ := q
      subst e1 e2
      obtain ⟨nm, bs, mro, ns, qn, hd, sn, sub, ab, col, del⟩ := cd
      dsimp only at hm hdel hdict
      subst hm hdel hdict
      have hsl : sl = #[k0, k1, k2, k3, some (.builtin "ValueError.__new__"), k5] := by
        obtain ⟨l⟩ := sl
        simp only at hs
        rw [hs]
      subst hsl
      exact ⟨nm, qn, ns, bs, bm, sn, sub, ab, col, dd, k0, k1, k2, k3, k5, ho, ht⟩
    · cases q
  · cases q
def excPB (K : PySem.W.Frag) (C : Addr) : Bool := oexClsB K C && (decide (PySem.W.findIn K (.ref C) "__setattr__" = some (some (.builtin "object.__setattr__"))) && (decide (PySem.W.subIn K (.ref C) (.type "BaseException") = some true) && (decide (PySem.W.typeIn K (.ref C) = some (.type "type")) &&
  (PySem.W.keepIn K (.ref C) && decide (PySem.W.findIn K (.ref C) "place" = some none)))))
theorem excPB_ok {K : PySem.W.Frag} {C : Addr} (h : excPB K C = true) : OexC K C ∧ PySem.W.findIn K (.ref C) "place" = some none := by
  obtain ⟨h1, h⟩ := Bool.and_eq_true_iff.mp h
  obtain ⟨h2, h⟩ := Bool.and_eq_true_iff.mp h
  obtain ⟨h3, h⟩ := Bool.and_eq_true_iff.mp h
  obtain ⟨h4, h⟩ := Bool.and_eq_true_iff.mp h
  obtain ⟨h5, h6⟩ := Bool.and_eq_true_iff.mp h
  exact ⟨⟨oexCls_ok h1, of_decide_eq_true h2, of_decide_eq_true h3, of_decide_eq_true h4, h5⟩, of_decide_eq_true h6⟩
def isVeInit : Option PySem.W.CFound → Bool
  | some (.val (.builtin s)) => s == "ValueError.__init__"
  | _ => false
theorem isVeInit_ok : ∀ {r : Option PySem.W.CFound}, isVeInit r = true → r = some (.val (.builtin "ValueError.__init__")) := fun {r} h => by
  unfold isVeInit at h
  split at h
  · rw [beq_iff_eq.mp h]
  · cases h
def excBB (K : PySem.W.Frag) (CE : Addr) : Bool := decide (PySem.W.specialIn K (.ref CE) "__getattribute__" = some (some (.builtin "type.__getattribute__"))) && (PySem.W.readsIn K CE (.type "type") && isVeInit (PySem.W.findCls K (.ref CE) (.type "type") "__init__"))
theorem excBB_ok {K : PySem.W.Frag} {mg : Str → Option Value} {CE : Addr} (h : excBB K CE = true) (g : mg "ColumnError" = some (.ref CE)) : ExcB K mg CE := by
  obtain ⟨h1, h⟩ := Bool.and_eq_true_iff.mp h
  obtain ⟨h2, h3⟩ := Bool.and_eq_true_iff.mp h
  exact ⟨g, of_decide_eq_true h1, h2, isVeInit_ok h3⟩
end K3

set_option Elab.async false
set_option linter.all false
set_option maxRecDepth 100000
set_option maxHeartbeats 4000000
/-! KH: a head that also looks at the interpreter's statics (a class's attributes are read over them) -/
namespace K3
open PySem PySem.Spec PyProof.Rows L2
/-- what the names reach, and the statics -/
def asY (g : Addr → Option Obj) (n : Nat) : List Addr := He.asD g n ++ [cStatics]
abbrev frY (g : Addr → Option Obj) (n : Nat) : PySem.W.Frag := He.frT g (asY g n)
def obsY (n : Nat) (fa : List He.Fa) (fn : List He.DefD) (ts : List He.Tab) (tf : List He.Defn) (ex : PySem.W.Frag → Bool) (g : Addr → Option Obj) : He.AlX := (He.obsT fa fn ts (frY g n), ex (frY g n) && He.tabsB g tf (frY g n))
theorem saysY_of {n : Nat} {fa : List He.Fa} {fn : List He.DefD} {ts : List He.Tab} {tf : List He.Defn} {ex : PySem.W.Frag → Bool} {w : World} {h : Heap} (e : obsY n fa fn ts tf ex h.get? = He.valX fn ts w) : He.SaysX fa fn ts tf ex w h (frY h.get? n) := by
  have e1 : He.obsT fa fn ts (frY h.get? n) = He.valT fn ts w := congrArg Prod.fst e
  have e2 : (ex (frY h.get? n) && He.tabsB h.get? tf (frY h.get? n)) = true := congrArg Prod.snd e
  obtain ⟨h1, h2⟩ := Bool.and_eq_true_iff.mp e2
  have key : ∀ p ∈ tf, PySem.W.codeHdIn (frY h.get? n) (He.cT (frY h.get? n) p).1 (He.cT (frY h.get? n) p).2 = true ∧ ∃ o, h.get? (He.cT (frY h.get? n) p).2 = some o ∧ He.emptyTab o = true := fun p hp => by
    obtain ⟨h3, h4⟩ := Bool.and_eq_true_iff.mp (List.all_eq_true.mp h2 p hp)
    refine ⟨h3, ?_⟩
    cases q : h.get? (He.cT (frY h.get? n) p).2 with
    | none =>
      rw [q] at h4
      cases h4
    | some o =>
      rw [q] at h4
      exact ⟨o, rfl, h4⟩
  refine ⟨e1, h1, fun p hp => (key p hp).1, fun p hp => ?_, fun p hp => ?_⟩
  · obtain ⟨_, o, q, z⟩ := key p hp
    exact He.frT_none q z
  · obtain ⟨_, o, q, z⟩ := key p hp
    rw [q, He.emptyTab_eq z]
def hookY (n : Nat) (fa : List He.Fa) (fn : List He.DefD) (ts : List He.Tab) (tf : List He.Defn) (ex : PySem.W.Frag → Bool) : PySem.W.Hook where
  α := He.AlX
  obs := fun s => obsY n fa fn ts tf ex s.heap.get?
  val := fun w => He.valX fn ts w
  says := fun w h => ∃ K : PySem.W.Frag, K.In h ∧ He.SaysX fa fn ts tf ex w h K
  of := fun _ _ e => ⟨_, He.frT_in, saysY_of e⟩
  keeps := fun _ _ _ ⟨K, hK, c⟩ k => ⟨K, PySem.W.Frag.In.keeps hK k, ⟨c.t, c.more, c.hd, c.out, fun p hp => k _ _ (c.empty p hp)⟩⟩
theorem obsY_eq {n : Nat} {fa : List He.Fa} {fn : List He.DefD} {ts : List He.Tab} {tf : List He.Defn} {ex : PySem.W.Frag → Bool} {g : Addr → Option Obj} {s : Shared} (h : ∀ a, g a = s.heap.get? a) : obsY n fa fn ts tf ex g = (hookY n fa fn ts tf ex).obs s := by
  have e : g = s.heap.get? := funext h
  rw [e] <;> rfl
end K3

set_option Elab.async false
set_option linter.all false
set_option maxRecDepth 100000
set_option maxHeartbeats 4000000
/-! KS: what changes and what doesn't: things with the objects that are theirs, side by side -/
namespace K3
open PySem PySem.Spec PyProof.Rows L2
/-- tuples stay -/
def SmT (H H' : Hp) : Prop := ∀ b o, H b = some o → ((∃ xs, o = .tup xs) ∨ ∃ ob xs, o = .frz ob (.tup xs)) → H' b = some o
theorem SmT.of {H H' : Hp} (s : Same H H') : SmT H H' := fun b o e _ => s b o e
theorem SmT.refl (H : Hp) : SmT H H := fun _ _ e _ => e
theorem SmT.trans {H H1 H2 : Hp} (a : SmT H H1) (b : SmT H1 H2) : SmT H H2 := fun c o e h => b c o (a c o e h) h
theorem SmT.seqT {K : PySem.W.Frag} {H H' : Hp} {a : Addr} {xs : List V} (s : SmT H H') (h : SqT K H a xs) : SqT K H' a xs := by
  rcases h with (h | ⟨ob, h⟩) | h
  · exact .inl (.inl (s _ _ h (.inl ⟨xs, rfl⟩)))
  · exact .inl (.inr ⟨ob, s _ _ h (.inr ⟨ob, xs, rfl⟩)⟩)
  · exact .inr h
theorem SmT.ext {H H' : Hp} (e : LamX.ExtN H H') : SmT H H' := fun b o h k => e b o h fun ps z => by
  rcases k with ⟨xs, k⟩ | ⟨ob, xs, k⟩ <;> rw [k] at z <;> cases z
/-! ### what may change -/
def Mutb (o : HO) : Prop := (∃ xs, o = .lst xs) ∨ (∃ C dx fs, o = .ins C dx fs) ∨ (∃ a, o = .own a) ∨ (∃ k, o = .dK k) ∨ (∃ k, o = .dT k)
theorem Mutb.lst {xs : List V} : Mutb (.lst xs) := .inl ⟨xs, rfl⟩
theorem Mutb.ins {C dx : Addr} {fs : List (Str × V)} : Mutb (.ins C dx fs) := .inr (.inl ⟨C, dx, fs, rfl⟩)
theorem Mutb.own {a : Addr} : Mutb (.own a) := .inr (.inr (.inl ⟨a, rfl⟩))
theorem Mutb.dK {k : List (Key × V)} : Mutb (.dK k) := .inr (.inr (.inr (.inl ⟨k, rfl⟩)))
theorem code_own {c a : Addr} {q : Str} : LamX.CodeO c q ≠ .own a := fun z => by
  unfold LamX.CodeO at z
  cases z
theorem code_dT {c : Addr} {q : Str} {k} : LamX.CodeO c q ≠ .dT k := fun z => by
  unfold LamX.CodeO at z
  cases z
theorem Mutb.not {o : HO} (m : Mutb o) : (∀ xs, o ≠ .tup xs) ∧ (∀ ob xs, o ≠ .frz ob xs) ∧ (∀ ps, o ≠ .tbl ps) ∧ ∀ c q, o ≠ LamX.CodeO c q := by
  rcases m with ⟨xs, rfl⟩ | ⟨C, dx, fs, rfl⟩ | ⟨a, rfl⟩ | ⟨k, rfl⟩ | ⟨k, rfl⟩
  · exact ⟨fun _ z => (by cases z), fun _ _ z => (by cases z), fun _ z => (by cases z), fun _ _ z => code_lst z.symm⟩
  · exact ⟨fun _ z => (by cases z), fun _ _ z => (by cases z), fun _ z => (by cases z), fun _ _ z => code_ins z.symm⟩
  · exact ⟨fun _ z => (by cases z), fun _ _ z => (by cases z), fun _ z => (by cases z), fun _ _ z => code_own z.symm⟩
  · exact ⟨fun _ z => (by cases z), fun _ _ z => (by cases z), fun _ z => (by cases z), fun _ _ z => code_dK z.symm⟩
  · exact ⟨fun _ z => (by cases z), fun _ _ z => (by cases z), fun _ z => (by cases z), fun _ _ z => code_dT z.symm⟩
def MutAt (H : Hp) (q : Addr) : Prop := ∃ o, H q = some o ∧ Mutb o
theorem MutAt.of {H : Hp} {q : Addr} {o : HO} (h : H q = some o) (m : Mutb o) : MutAt H q := ⟨o, h, m⟩
theorem MutAt.no {H : Hp} {q : Addr} (h : H q = none) : ¬ MutAt H q := fun ⟨_, e, _⟩ => by
  rw [h] at e
  cases e
abbrev Foot := Addr → Prop
/-- all stays beside F, but tables; T's tables stay tables -/
structure Mv (T : List (Addr × Str)) (F : Foot) (H H' : Hp) : Prop where
  out : ∀ q o, ¬ F q → H q = some o → (∀ ps, o ≠ .tbl ps) → H' q = some o
  tabs : LamX.Tabs T H → LamX.Tabs T H'
theorem Mv.refl {T : List (Addr × Str)} {F : Foot} {H : Hp} : Mv T F H H := ⟨fun _ _ _ e _ => e, fun t => t⟩
theorem Mv.trans {T : List (Addr × Str)} {F : Foot} {H H1 H2 : Hp} (a : Mv T F H H1) (b : Mv T F H1 H2) : Mv T F H H2 := ⟨fun q o n e t => b.out q o n (a.out q o n e t) t, fun t => b.tabs (a.tabs t)⟩
theorem Mv.same {T : List (Addr × Str)} {F : Foot} {H H' : Hp} (s : Same H H') : Mv T F H H' := ⟨fun q o _ e _ => s q o e, fun t => tabs_same t s⟩
theorem Mv.ext {T : List (Addr × Str)} {F : Foot} {H H' : Hp} (s : LamX.ExtN H H') (t : LamX.Tabs T H') : Mv T F H H' := ⟨fun q o _ e n => s q o e n, fun _ => t⟩
theorem Mv.of {T : List (Addr × Str)} {F : Foot} {H H' : Hp} (m : ∀ q, F q → MutAt H q) (o : ∀ q o, ¬ F q → H q = some o → H' q = some o) : Mv T F H H' := by
  refine ⟨fun q u n e _ => o q u n e, fun t => tabs_to t fun b u e k => o b u (fun hf => ?_) e⟩
  obtain ⟨u', e', mu⟩ := m b hf
  rw [e] at e'
  obtain rfl := Option.some.inj e'
  obtain ⟨_, _, n1, n2⟩ := mu.not
  rcases k with ⟨ps, k⟩ | ⟨c, q, k⟩
  · exact n1 ps k
  · exact n2 c q k
/-- a change at one place -/
theorem Mv.upd {T : List (Addr × Str)} {F : Foot} {H : Hp} {p : Addr} {o : HO} (hp : F p) (m : MutAt H p) : Mv T F H (L2.upd H p o) := by
  obtain ⟨o0, h0, m0⟩ := m
  obtain ⟨_, _, n1, n2⟩ := m0.not
  exact ⟨fun q u n e _ => (upd_ne fun z => n (by rw [z]; exact hp)).trans e, fun t => tabs_put t h0 (fun ps z => n1 ps z.symm) fun c q z => n2 c q z.symm⟩
theorem Mv.new {T : List (Addr × Str)} {F : Foot} {H : Hp} {p : Addr} {o : HO} (n : H p = none) : Mv T F H (L2.upd H p o) := .same (Same.upd n)
theorem Mv.wide {T : List (Addr × Str)} {F F' : Foot} {H H' : Hp} (m : Mv T F H H') (h : ∀ q, F q → F' q ∨ ¬ MutAt H q) (mu : ∀ q, F q → MutAt H q) : Mv T F' H H' := ⟨fun q o n e t => m.out q o (fun f => (h q f).elim n fun z => z (mu q f)) e t, m.tabs⟩
theorem Mv.smT {T : List (Addr × Str)} {F : Foot} {H H' : Hp} (m : Mv T F H H') (mu : ∀ q, F q → MutAt H q) : SmT H H' := fun b o e k => by
  refine m.out b o (fun f => ?_) e fun ps z => ?_
  · obtain ⟨o', e', m'⟩ := mu b f
    rw [e] at e'
    obtain rfl := Option.some.inj e'
    obtain ⟨n1, n2, _⟩ := m'.not
    rcases k with ⟨xs, k⟩ | ⟨ob, xs, k⟩
    · exact n1 xs k
    · exact n2 _ _ k
  · rcases k with ⟨xs, k⟩ | ⟨ob, xs, k⟩ <;> rw [k] at z <;> cases z
/-! ### things -/
structure Thing where
  R : Hp → Foot → Prop
  mt : ∀ {H F}, R H F → ∀ q, F q → MutAt H q
  loc : ∀ {H H' F}, R H F → (∀ q o, F q → H q = some o → H' q = some o) → SmT H H' → R H' F
/-- side by side -/
def Holds : List Thing → Hp → Foot → Prop
  | [], _, F => ∀ q, ¬ F q
  | A :: As, H, F => ∃ F1 F2, A.R H F1 ∧ Holds As H F2 ∧ (∀ q, F1 q → ¬ F2 q) ∧ ∀ q, F q ↔ F1 q ∨ F2 q
theorem Holds.mut : ∀ {As : List Thing} {H : Hp} {F : Foot}, Holds As H F → ∀ q, F q → MutAt H q
  | [], _, _, h, q, f => absurd f (h q)
  | A :: As, H, F, ⟨F1, F2, a, b, _, e⟩, q, f => by
    rcases (e q).mp f with f | f
    · exact A.mt a q f
    · exact Holds.mut b q f
theorem Holds.loc : ∀ {As : List Thing} {H H' : Hp} {F : Foot}, Holds As H F → (∀ q o, F q → H q = some o → H' q = some o) → SmT H H' → Holds As H' F
  | [], _, _, _, h, _, _ => h
  | A :: As, H, H', F, ⟨F1, F2, a, b, d, e⟩, k, s => ⟨F1, F2, A.loc a (fun q o f => k q o ((e q).mpr (.inl f))) s, Holds.loc b (fun q o f => k q o ((e q).mpr (.inr f))) s, d, e⟩
theorem Holds.feq : ∀ {As : List Thing} {H : Hp} {F F' : Foot}, Holds As H F → (∀ q, F q ↔ F' q) → Holds As H F'
  | [], _, _, _, h, e => fun q f => h q ((e q).mpr f)
  | A :: As, H, F, F', ⟨F1, F2, a, b, d, e⟩, k => ⟨F1, F2, a, b, d, fun q => (k q).symm.trans (e q)⟩
theorem Holds.perm {As Bs : List Thing} {H : Hp} (p : As.Perm Bs) : ∀ {F : Foot}, Holds As H F → Holds Bs H F := by
  induction p with
  | nil => exact fun h => h
  | cons A _ ih => exact fun ⟨F1, F2, a, b, d, e⟩ => ⟨F1, F2, a, ih b, d, e⟩
  | swap A B l =>
    rintro F ⟨F1, F2, a, ⟨F3, F4, b, c, d2, e2⟩, d, e⟩
    refine ⟨F3, fun q => F1 q ∨ F4 q, b, ⟨F1, F4, a, c, fun q f1 f4 => d q f1 ((e2 q).mpr (.inr f4)), fun q => Iff.rfl⟩, fun q f3 f => ?_, fun q => ?_⟩
    · rcases f with f | f
      · exact d q f ((e2 q).mpr (.inl f3))
      · exact d2 q f3 f
    · rw [e q, e2 q]
      constructor
      · rintro (h | h | h)
        · exact .inr (.inl h)
        · exact .inl h
        · exact .inr (.inr h)
      · rintro (h | h | h)
        · exact .inr (.inl h)
        · exact .inl h
        · exact .inr (.inr h)
  | trans _ _ ih1 ih2 => exact fun h => ih2 (ih1 h)
theorem Holds.app : ∀ {As Bs : List Thing} {H : Hp} {F : Foot}, Holds (As ++ Bs) H F ↔ ∃ F1 F2, Holds As H F1 ∧ Holds Bs H F2 ∧ (∀ q, F1 q → ¬ F2 q) ∧ ∀ q, F q ↔ F1 q ∨ F2 q
  | [], Bs, H, F => by
    constructor
    · exact fun h => ⟨fun _ => False, F, fun q f => f, h, fun q f => f.elim, fun q => ⟨.inr, fun z => z.elim False.elim id⟩⟩
    · rintro ⟨F1, F2, n, h, _, e⟩
      exact h.feq fun q => ⟨fun f => (e q).mpr (.inr f), fun f => ((e q).mp f).elim (fun z => absurd z (n q)) id⟩
  | A :: As, Bs, H, F => by
    constructor
    · rintro ⟨F1, F2, a, h, d, e⟩
      obtain ⟨G1, G2, h1, h2, d2, e2⟩ := Holds.app.mp h
      refine ⟨fun q => F1 q ∨ G1 q, G2, ⟨F1, G1, a, h1, fun q f g => d q f ((e2 q).mpr (.inl g)), fun q => Iff.rfl⟩, h2, fun q f g => ?_, fun q => ?_⟩
      · rcases f with f | f
        · exact d q f ((e2 q).mpr (.inr g))
        · exact d2 q f g
      · rw [e q, e2 q, or_assoc]
    · rintro ⟨F12, F3, ⟨F1, F2, a, h1, d, e⟩, h2, d2, e2⟩
      refine ⟨F1, fun q => F2 q ∨ F3 q, a, Holds.app.mpr ⟨F2, F3, h1, h2, fun q f => d2 q ((e q).mpr (.inr f)), fun q => Iff.rfl⟩, fun q f g => ?_, fun q => ?_⟩
      · rcases g with g | g
        · exact d q f g
        · exact d2 q ((e q).mpr (.inl f)) g
      · rw [e2 q, e q, or_assoc]
/-! ### a state: from H0, where F0 was theirs, these things -/
structure St (T : List (Addr × Str)) (H0 : Hp) (F0 : Foot) (As : List Thing) (H : Hp) : Prop where
  ex : ∃ F, Holds As H F ∧ ∀ q, F q → F0 q ∨ ¬ MutAt H0 q
  mv : Mv T F0 H0 H
  tabs : LamX.Tabs T H
section
variable {T : List (Addr × Str)} {H0 H H' : Hp} {F0 : Foot} {As Bs Cs Ds : List Thing}
theorem St.start (h : Holds As H F0) (t : LamX.Tabs T H) : St T H F0 As H := ⟨⟨F0, h, fun _ f => .inl f⟩, .refl, t⟩
theorem sub_trans {F0 F1 F2 : Foot} {H0 H1 : Hp} (m : Mv T F0 H0 H1) (a : ∀ q, F1 q → F0 q ∨ ¬ MutAt H0 q) (b : ∀ q, F2 q → F1 q ∨ ¬ MutAt H1 q) : ∀ q, F2 q → F0 q ∨ ¬ MutAt H0 q := fun q f => by
  rcases b q f with f | n
  · exact a q f
  · by_cases f0 : F0 q
    · exact .inl f0
    · refine .inr fun ⟨o, e, mo⟩ => n ⟨o, m.out q o f0 e fun ps z => ?_, mo⟩
      exact mo.not.2.2.1 ps z
/-- Cs of them are moved to Bs; the rest stays -/
theorem St.step (h : St T H0 F0 As H) (p : As.Perm (Cs ++ Ds)) : ∃ F1, Holds Cs H F1 ∧ ∀ {Bs H'}, St T H F1 Bs H' → St T H0 F0 (Bs ++ Ds) H' ∧ SmT H H' := by
  obtain ⟨⟨F, hF, sub⟩, mv, tb⟩ := h
  obtain ⟨F1, F2, h1, h2, d, e⟩ := Holds.app.mp (hF.perm p)
  refine ⟨F1, h1, fun {Bs H'} ⟨⟨F1', h1', sub1⟩, mv1, tb1⟩ => ?_⟩
  have sm : SmT H H' := mv1.smT h1.mut
  have m2 := h2.mut
  have h2' : Holds Ds H' F2 := h2.loc (fun q o f e1 => mv1.out q o (fun f1 => d q f1 f) e1 fun ps z => by
    obtain ⟨o', e', m'⟩ := m2 q f
    rw [e1] at e'
    obtain rfl := Option.some.inj e'
    exact m'.not.2.2.1 ps z) sm
  have dis : ∀ q, F1' q → ¬ F2 q := fun q f1 f2 => by
    rcases sub1 q f1 with z | z
    · exact d q z f2
    · exact z (m2 q f2)
  refine ⟨⟨⟨fun q => F1' q ∨ F2 q, Holds.app.mpr ⟨F1', F2, h1', h2', dis, fun q => Iff.rfl⟩, ?_⟩, ⟨fun q o n e0 t => ?_, fun t => mv1.tabs (mv.tabs t)⟩, tb1⟩, sm⟩
  · refine sub_trans mv sub fun q f => ?_
    rcases f with f | f
    · rcases sub1 q f with z | z
      · exact .inl ((e q).mpr (.inl z))
      · exact .inr z
    · exact .inl ((e q).mpr (.inr f))
  · have e1 := mv.out q o n e0 t
    refine mv1.out q o (fun f1 => ?_) e1 t
    rcases sub q ((e q).mpr (.inl f1)) with z | z
    · exact n z
    · obtain ⟨o', e', m'⟩ := h1.mut q f1
      rw [e1] at e'
      obtain rfl := Option.some.inj e'
      exact z ⟨_, e0, m'⟩
/-- what has moved ahead: SmT from the beginning -/
theorem St.smT (h : St T H0 F0 As H) (m : ∀ q, F0 q → MutAt H0 q) : SmT H0 H := h.mv.smT m
theorem St.same (h : St T H0 F0 As H) (s : Same H H') : St T H0 F0 As H' := by
  obtain ⟨⟨F, hF, sub⟩, mv, tb⟩ := h
  exact ⟨⟨F, hF.loc (fun q o _ e => s q o e) (.of s), sub⟩, mv.trans (.same s), tabs_same tb s⟩
theorem St.ext (h : St T H0 F0 As H) (s : LamX.ExtN H H') (t : LamX.Tabs T H') : St T H0 F0 As H' := by
  obtain ⟨⟨F, hF, sub⟩, mv, tb⟩ := h
  refine ⟨⟨F, hF.loc (fun q o f e => s q o e fun ps z => ?_) (.ext s), sub⟩, mv.trans (.ext s t), t⟩
  obtain ⟨o', e', m'⟩ := hF.mut q f
  rw [e] at e'
  obtain rfl := Option.some.inj e'
  exact m'.not.2.2.1 ps z
theorem St.perm (h : St T H0 F0 As H) (p : As.Perm Bs) : St T H0 F0 Bs H := by
  obtain ⟨⟨F, hF, sub⟩, mv, tb⟩ := h
  exact ⟨⟨F, hF.perm p, sub⟩, mv, tb⟩
/-- the first ones only -/
theorem St.drop (h : St T H0 F0 (As ++ Bs) H) : St T H0 F0 As H := by
  obtain ⟨⟨F, hF, sub⟩, mv, tb⟩ := h
  obtain ⟨F1, F2, h1, h2, d, e⟩ := Holds.app.mp hF
  exact ⟨⟨F1, h1, fun q f => sub q ((e q).mpr (.inl f))⟩, mv, tb⟩
/-- by places -/
def nilT : Thing := ⟨fun _ F => ∀ q, ¬ F q, fun h q f => absurd f (h q), fun h _ _ => h⟩
def pick (As : List Thing) (is : List Nat) : List Thing := is.map fun i => As.getD i nilT
theorem pick_all : ∀ (As : List Thing), pick As (List.range As.length) = As := fun As => by
  unfold pick
  refine List.ext_getElem? fun i => ?_
  rw [List.getElem?_map]
  by_cases c : i < As.length
  · rw [List.getElem?_range c, List.getElem?_eq_getElem c]
    show some (As.getD i nilT) = _
    rw [List.getD_eq_getElem?_getD, List.getElem?_eq_getElem c] <;> rfl
  · rw [List.getElem?_eq_none (by rw [List.length_range]; omega), List.getElem?_eq_none (by omega)] <;> rfl
theorem pick_perm {is : List Nat} (p : is.Perm (List.range As.length)) : As.Perm (pick As is) := by
  have := (p.symm.map fun i => As.getD i nilT)
  rw [show (List.range As.length).map (fun i => As.getD i nilT) = As from pick_all As] at this
  exact this
theorem St.order (h : St T H0 F0 As H) (is : List Nat) (p : is.isPerm (List.range As.length) = true) : St T H0 F0 (pick As is) H := h.perm (pick_perm (List.isPerm_iff.mp p))
/-- a call that takes the things at is; js are the others -/
theorem St.call (h : St T H0 F0 As H) (is js : List Nat) (p : (is ++ js).isPerm (List.range As.length) = true) : ∃ F1, Holds (pick As is) H F1 ∧ ∀ {Bs H'}, St T H F1 Bs H' → St T H0 F0 (Bs ++ pick As js) H' ∧ SmT H H' := by
  refine h.step ((pick_perm (List.isPerm_iff.mp p)).trans ?_)
  unfold pick
  rw [List.map_append]
/-- one thing is changed -/
theorem St.turn {A B : Thing} (h : St T H0 F0 (A :: As) H) (k : ∀ F1, A.R H F1 → (∀ q, F1 q → MutAt H q) → ∃ F2, B.R H' F2 ∧ Mv T F1 H H' ∧ ∀ q, F2 q → F1 q ∨ ¬ MutAt H q) : St T H0 F0 (B :: As) H' ∧ SmT H H' := by
  obtain ⟨F1, h1, c⟩ := h.step (Cs := [A]) (Ds := As) (.refl _)
  have m1 := Holds.mut h1
  obtain ⟨G1, G2, a, n, d, e⟩ := h1
  have e' : ∀ q, G1 q ↔ F1 q := fun q => ⟨fun f => (e q).mpr (.inl f), fun f => ((e q).mp f).elim id fun z => absurd z (n q)⟩
  obtain ⟨F2, b, m, s⟩ := k G1 a fun q f => m1 q ((e' q).mp f)
  refine c (Bs := [B]) ⟨⟨F2, ⟨F2, fun _ => False, b, fun q f => f, fun q _ f => f, fun q => ⟨.inl, fun z => z.elim id False.elim⟩⟩, fun q f => ?_⟩, ⟨fun q o f e0 t => m.out q o (fun g => f ((e' q).mp g)) e0 t, m.tabs⟩, m.tabs h.tabs⟩
  rcases s q f with z | z
  · exact .inl ((e' q).mp z)
  · exact .inr z
/-- a thing as another one sees it -/
theorem St.see {A B : Thing} (h : St T H0 F0 (A :: As) H) (k : ∀ F1, A.R H F1 → B.R H F1) : St T H0 F0 (B :: As) H :=
  (h.turn (B := B) (H' := H) fun F1 a m => ⟨F1, k F1 a, .refl, fun q f => .inl f⟩).1
theorem St.get {A : Thing} (h : St T H0 F0 (A :: As) H) : ∃ F1, A.R H F1 ∧ ∀ q, F1 q → MutAt H q := by
  obtain ⟨⟨F, ⟨F1, F2, a, _⟩, _⟩, _⟩ := h
  exact ⟨F1, a, A.mt a⟩
/-- a new thing, in objects that were none of the things -/
theorem St.add {A : Thing} (h : St T H0 F0 As H) (s : Same H H') (k : ∃ F1, A.R H' F1 ∧ ∀ q, F1 q → H q = none) : St T H0 F0 (A :: As) H' := by
  obtain ⟨⟨F, hF, sub⟩, mv, tb⟩ := h
  obtain ⟨F1, a, n⟩ := k
  refine ⟨⟨fun q => F1 q ∨ F q, ⟨F1, F, a, hF.loc (fun q o _ e => s q o e) (.of s), fun q f1 f => ?_, fun q => Iff.rfl⟩, fun q f => ?_⟩, mv.trans (.same s), tabs_same tb s⟩
  · exact MutAt.no (n q f1) (hF.mut q f)
  · rcases f with f | f
    · by_cases f0 : F0 q
      · exact .inl f0
      · refine .inr fun ⟨o, e, mo⟩ => ?_
        have := mv.out q o f0 e fun ps z => mo.not.2.2.1 ps z
        rw [n q f] at this
        cases this
    · exact sub q f
end
/-! ### a list -/
def lstT (p : Addr) (xs : List V) : Thing := ⟨fun H F => H p = some (.lst xs) ∧ ∀ q, F q ↔ q = p, fun ⟨h, e⟩ q f => ((e q).mp f) ▸ ⟨_, h, .lst⟩, fun ⟨h, e⟩ k _ => ⟨k p _ ((e p).mpr rfl) h, e⟩⟩
section
variable {T : List (Addr × Str)} {H0 H H' : Hp} {F0 : Foot} {As : List Thing} {p : Addr} {xs ys : List V}
theorem St.new (h : St T H0 F0 As H) (n : H p = none) : St T H0 F0 (lstT p xs :: As) (L2.upd H p (.lst xs)) := h.add (Same.upd n) ⟨fun q => q = p, ⟨upd_same, fun q => Iff.rfl⟩, fun q e => e ▸ n⟩
/-- a list that is new in a heap that is the same otherwise -/
theorem St.new' (h : St T H0 F0 As H) (s : Same H H') (n : H p = none) (e : H' p = some (.lst xs)) : St T H0 F0 (lstT p xs :: As) H' := h.add s ⟨fun q => q = p, ⟨e, fun q => Iff.rfl⟩, fun q e => e ▸ n⟩
theorem St.lst (h : St T H0 F0 (lstT p xs :: As) H) : H p = some (.lst xs) := by
  obtain ⟨F1, ⟨a, _⟩, _⟩ := h.get
  exact a
theorem St.put (h : St T H0 F0 (lstT p xs :: As) H) : St T H0 F0 (lstT p ys :: As) (L2.upd H p (.lst ys)) :=
  (h.turn (B := lstT p ys) fun F1 ⟨a, e⟩ m => ⟨F1, ⟨upd_same, e⟩, .upd ((e p).mpr rfl) ⟨_, a, .lst⟩, fun q f => .inl f⟩).1
end
end K3

set_option Elab.async false
set_option linter.all false
set_option maxRecDepth 100000
set_option maxHeartbeats 4000000
/-! KDt: data: numbers, texts, truths, None and tuples of such; what stands for which; the box as a thing -/
namespace K3
open PySem PySem.Spec PyProof.Rows L2
inductive Dat where
  | non
  | bl (b : Bool)
  | int (i : Int)
  | str (z : Str)
  | tup (ds : List Dat)
inductive Is (K : PySem.W.Frag) (H : Hp) : V → Dat → Prop where
  | non : Is K H .non .non
  | bl (b : Bool) : Is K H (.bl b) (.bl b)
  | int (i : Int) : Is K H (.int i) (.int i)
  | str (z : Str) : Is K H (.str z) (.str z)
  | tup {a : Addr} {xs : List V} {ds : List Dat} (h : SqT K H a xs) (l : xs.length = ds.length) (e : ∀ (i : Nat) (x : V) (d : Dat), xs[i]? = some x → ds[i]? = some d → Is K H x d) : Is K H (.ref a) (.tup ds)
section
variable {K : PySem.W.Frag} {H H' : Hp}
theorem Is.keep {v : V} {d : Dat} (h : Is K H v d) (s : SmT H H') : Is K H' v d := by
  induction h with
  | non => exact .non
  | bl b => exact .bl b
  | int i => exact .int i
  | str z => exact .str z
  | tup h l _ ih => exact .tup (s.seqT h) l ih
theorem Is.same {v : V} {d : Dat} (h : Is K H v d) (s : Same H H') : Is K H' v d := h.keep (.of s)
/-- lists of such -/
def Iss (K : PySem.W.Frag) (H : Hp) (xs : List V) (ds : List Dat) : Prop := xs.length = ds.length ∧ ∀ (i : Nat) (x : V) (d : Dat), xs[i]? = some x → ds[i]? = some d → Is K H x d
theorem Iss.keep {xs : List V} {ds : List Dat} (h : Iss K H xs ds) (s : SmT H H') : Iss K H' xs ds := ⟨h.1, fun i x d a b => (h.2 i x d a b).keep s⟩
theorem Iss.same {xs : List V} {ds : List Dat} (h : Iss K H xs ds) (s : Same H H') : Iss K H' xs ds := h.keep (.of s)
theorem Iss.nil : Iss K H [] [] := ⟨rfl, fun _ _ _ a => by cases a⟩
theorem Iss.cons {x : V} {d : Dat} {xs : List V} {ds : List Dat} (h : Is K H x d) (t : Iss K H xs ds) : Iss K H (x :: xs) (d :: ds) := by
  refine ⟨by rw [List.length_cons, List.length_cons, t.1], fun i y e a b => ?_⟩
  cases i with
  | zero =>
    cases a
    cases b
    exact h
  | succ i => exact t.2 i y e a b
theorem Iss.uncons {x : V} {xs : List V} {d : Dat} {ds : List Dat} (h : Iss K H (x :: xs) (d :: ds)) : Is K H x d ∧ Iss K H xs ds := by
  have := h.1
  exact ⟨h.2 0 x d rfl rfl, by simpa using this, fun i y e a b => h.2 (i + 1) y e a b⟩
theorem Iss.get {xs : List V} {ds : List Dat} (h : Iss K H xs ds) {i : Nat} {x : V} (hx : xs[i]? = some x) : ∃ d, ds[i]? = some d ∧ Is K H x d := by
  have hi := (List.getElem?_eq_some_iff.mp hx).1
  have hd : ds[i]? = some (ds[i]'(by rw [← h.1]; exact hi)) := List.getElem?_eq_getElem _
  exact ⟨_, hd, h.2 i x _ hx hd⟩
theorem Iss.to {xs : List V} {ds : List Dat} (h : Iss K H xs ds) {i : Nat} {d : Dat} (hd : ds[i]? = some d) : ∃ x, xs[i]? = some x ∧ Is K H x d := by
  have hi := (List.getElem?_eq_some_iff.mp hd).1
  have hx : xs[i]? = some (xs[i]'(by rw [h.1]; exact hi)) := List.getElem?_eq_getElem _
  exact ⟨_, hx, h.2 i _ d hx hd⟩
theorem Iss.app {xs ys : List V} {ds es : List Dat} (h : Iss K H xs ds) (t : Iss K H ys es) : Iss K H (xs ++ ys) (ds ++ es) := by
  refine ⟨by rw [List.length_append, List.length_append, h.1, t.1], fun i x d a b => ?_⟩
  by_cases c : i < xs.length
  · rw [List.getElem?_append_left c] at a
    rw [List.getElem?_append_left (by rw [← h.1]; exact c)] at b
    exact h.2 i x d a b
  · rw [List.getElem?_append_right (by omega)] at a
    rw [List.getElem?_append_right (by rw [← h.1]; omega), ← h.1] at b
    exact t.2 _ x d a b
theorem Iss.take {xs : List V} {ds : List Dat} (h : Iss K H xs ds) (n : Nat) : Iss K H (xs.take n) (ds.take n) := by
  refine ⟨by rw [List.length_take, List.length_take, h.1], fun i x d a b => ?_⟩
  rw [List.getElem?_take] at a b
  by_cases c : i < n
  · rw [if_pos c] at a b
    exact h.2 i x d a b
  · rw [if_neg c] at a
    cases a
theorem Iss.drop {xs : List V} {ds : List Dat} (h : Iss K H xs ds) (n : Nat) : Iss K H (xs.drop n) (ds.drop n) := by
  refine ⟨by rw [List.length_drop, List.length_drop, h.1], fun i x d a b => ?_⟩
  rw [List.getElem?_drop] at a b
  exact h.2 _ x d a b
theorem Iss.set {xs : List V} {ds : List Dat} {x : V} {d : Dat} (h : Iss K H xs ds) (n : Nat) (hx : Is K H x d) : Iss K H (xs.set n x) (ds.set n d) := by
  refine ⟨by rw [List.length_set, List.length_set, h.1], fun i y e a b => ?_⟩
  rw [List.getElem?_set] at a b
  by_cases c : n = i
  · rw [if_pos c] at a b
    by_cases l : n < xs.length
    · rw [if_pos l] at a
      rw [if_pos (by rw [← h.1]; exact l)] at b
      cases a
      cases b
      exact hx
    · rw [if_neg l] at a
      cases a
  · rw [if_neg c] at a b
    exact h.2 i y e a b
theorem Iss.rep (n : Nat) {x : V} {d : Dat} (hx : Is K H x d) : Iss K H (List.replicate n x) (List.replicate n d) := by
  refine ⟨by rw [List.length_replicate, List.length_replicate], fun i y e a b => ?_⟩
  obtain rfl := (List.mem_replicate.mp (List.mem_of_getElem? a)).2
  obtain rfl := (List.mem_replicate.mp (List.mem_of_getElem? b)).2
  exact hx
theorem is_tup {v : V} {ds : List Dat} (h : Is K H v (.tup ds)) : ∃ a xs, v = .ref a ∧ SqT K H a xs ∧ Iss K H xs ds := by
  cases h with
  | tup h l e => exact ⟨_, _, rfl, h, l, e⟩
theorem Iss.tup {a : Addr} {xs : List V} {ds : List Dat} (t : Iss K H xs ds) (h : SqT K H a xs) : Is K H (.ref a) (.tup ds) := .tup h t.1 t.2
/-- a new tuple -/
theorem Iss.made {p : Addr} {xs : List V} {ds : List Dat} (t : Iss K H xs ds) (n : H p = none) : Is K (L2.upd H p (.tup xs)) (.ref p) (.tup ds) := (t.same (Same.upd n)).tup (SqT.of upd_same)
end
/-! ### how deep, how wide, how heavy -/
inductive DOk : Nat → Dat → Prop where
  | non {n : Nat} : DOk n .non
  | bl {n : Nat} (b : Bool) : DOk n (.bl b)
  | int {n : Nat} (i : Int) : DOk n (.int i)
  | str {n : Nat} (z : Str) : DOk n (.str z)
  | tup {n : Nat} {ds : List Dat} (l : ds.length ≤ 10000) (e : ∀ d, d ∈ ds → DOk n d) : DOk (n + 1) (.tup ds)
theorem DOk.mono {n m : Nat} {d : Dat} (h : DOk n d) (l : n ≤ m) : DOk m d := by
  induction h generalizing m with
  | non => exact .non
  | bl b => exact .bl b
  | int i => exact .int i
  | str z => exact .str z
  | tup hl _ ih =>
    obtain ⟨k, rfl⟩ : ∃ k, m = k + 1 := ⟨m - 1, by omega⟩
    exact .tup hl fun d hd => ih d hd (by omega)
theorem alk_is {K : PySem.W.Frag} {H : Hp} {n : Nat} {d : Dat} (ok : DOk n d) : ∀ {x y : V}, Is K H x d → Is K H y d → Alk K H n x y := by
  induction ok with
  | non =>
    intro x y a b
    cases a
    cases b
    exact .non
  | bl t =>
    intro x y a b
    cases a
    cases b
    exact .bl t
  | int t =>
    intro x y a b
    cases a
    cases b
    exact .int t
  | str t =>
    intro x y a b
    cases a
    cases b
    exact .str t
  | tup l _ ih =>
    intro x y a b
    obtain ⟨p, xs, rfl, h1, i1⟩ := is_tup a
    obtain ⟨q, ys, rfl, h2, i2⟩ := is_tup b
    refine .tup h1 h2 (by rw [i1.1]; exact l) (i1.1.trans i2.1.symm) fun i x y hx hy => ?_
    obtain ⟨d, hd, dx⟩ := i1.get hx
    exact ih d (List.mem_of_getElem? hd) dx (i2.2 i y d hy hd)
/-- lists of such -/
theorem alk_iss {K : PySem.W.Frag} {H : Hp} {n : Nat} {a b : Addr} {xs ys : List V} {ds : List Dat} (ok : ∀ d, d ∈ ds → DOk n d) (l : ds.length ≤ 10000) (h1 : SqL K H a xs) (h2 : SqL K H b ys) (i1 : Iss K H xs ds) (i2 : Iss K H ys ds) : Alk K H (n + 1) (.ref a) (.ref b) := by
  refine .lst h1 h2 (by rw [i1.1]; exact l) (i1.1.trans i2.1.symm) fun i x y hx hy => ?_
  obtain ⟨d, hd, dx⟩ := i1.get hx
  exact alk_is (ok d (List.mem_of_getElem? hd)) dx (i2.2 i y d hy hd)
mutual
def Dat.weight : Dat → Nat
  | .tup ds => weights ds
  | _ => 1
def weights : List Dat → Nat
  | [] => 0
  | d :: ds => d.weight + weights ds
end
mutual
def Dat.size : Dat → Nat
  | .tup ds => 1 + sizes ds
  | _ => 1
def sizes : List Dat → Nat
  | [] => 0
  | d :: ds => d.size + sizes ds
end
theorem weights_app : ∀ (ds es : List Dat), weights (ds ++ es) = weights ds + weights es
  | [], es => by
    show weights es = 0 + weights es
    omega
  | d :: ds, es => by
    show d.weight + weights (ds ++ es) = d.weight + weights ds + weights es
    rw [weights_app ds es]
    omega
theorem sizes_app : ∀ (ds es : List Dat), sizes (ds ++ es) = sizes ds + sizes es
  | [], es => by
    show sizes es = 0 + sizes es
    omega
  | d :: ds, es => by
    show d.size + sizes (ds ++ es) = d.size + sizes ds + sizes es
    rw [sizes_app ds es]
    omega
theorem size_pos (d : Dat) : 1 ≤ d.size := by
  cases d <;> first | exact Nat.le_refl 1 | exact Nat.le_add_right 1 _
theorem sizes_len : ∀ (ds : List Dat), ds.length ≤ sizes ds
  | [] => Nat.le_refl 0
  | d :: ds => by
    have := sizes_len ds
    have := size_pos d
    show ds.length + 1 ≤ d.size + sizes ds
    omega
theorem weight_size : ∀ d : Dat, d.weight ≤ d.size := by
  have key : ∀ n : Nat, (∀ d : Dat, d.size ≤ n → d.weight ≤ d.size) ∧ ∀ ds : List Dat, sizes ds ≤ n → weights ds ≤ sizes ds := by
    intro n
    induction n with
    | zero =>
      refine ⟨fun d h => ?_, fun ds h => ?_⟩
      · have := size_pos d
        omega
      · cases ds with
        | nil => exact Nat.le_refl 0
        | cons d ds =>
          have : d.size + sizes ds ≤ 0 := h
          have := size_pos d
          omega
    | succ n ih =>
      have one : ∀ d : Dat, d.size ≤ n + 1 → d.weight ≤ d.size := fun d h => by
        cases d with
        | tup ds =>
          have h : 1 + sizes ds ≤ n + 1 := h
          have := ih.2 ds (by omega)
          show weights ds ≤ 1 + sizes ds
          omega
        | non => exact Nat.le_refl 1
        | bl b => exact Nat.le_refl 1
        | int i => exact Nat.le_refl 1
        | str z => exact Nat.le_refl 1
      refine ⟨one, fun ds h => ?_⟩
      induction ds with
      | nil => exact Nat.le_refl 0
      | cons d ds ih2 =>
        have h : d.size + sizes ds ≤ n + 1 := h
        have a := one d (by omega)
        have b := ih2 (by omega)
        show d.weight + weights ds ≤ d.size + sizes ds
        omega
  exact fun d => (key d.size).1 d (Nat.le_refl _)
/-! ### a list of data; a list of truths; the box -/
def datT (K : PySem.W.Frag) (p : Addr) (ds : List Dat) : Thing := ⟨fun H F => ∃ xs, H p = some (.lst xs) ∧ Iss K H xs ds ∧ ∀ q, F q ↔ q = p, fun ⟨xs, h, _, e⟩ q f => ((e q).mp f) ▸ ⟨_, h, .lst⟩, fun ⟨xs, h, i, e⟩ k s => ⟨xs, k p _ ((e p).mpr rfl) h, i.keep s, e⟩⟩
def boxT (b : Addr) : Thing := ⟨fun H F => ∃ l, Bx H b l ∧ ∀ q, F q ↔ q = b ∨ q = l, fun ⟨l, ⟨st, ns, h1, h2, _⟩, e⟩ q f => by
    rcases (e q).mp f with rfl | rfl
    · exact ⟨_, h1, .lst⟩
    · exact ⟨_, h2, .lst⟩, fun ⟨l, ⟨st, ns, h1, h2, h3⟩, e⟩ k _ => ⟨l, ⟨st, ns, k _ _ ((e _).mpr (.inl rfl)) h1, k _ _ ((e _).mpr (.inr rfl)) h2, h3⟩, e⟩⟩
section
variable {T : List (Addr × Str)} {H0 H H' : Hp} {F0 : Foot} {As : List Thing} {b : Addr} {K : PySem.W.Frag}
/-- the box drawn from: what stands beside stays -/
theorem St.drawn (h : St T H0 F0 (boxT b :: As) H) : ∃ l, Bx H b l ∧ ∀ H', Bx H' b l → Out b l H H' → St T H0 F0 (boxT b :: As) H' ∧ SmT H H' := by
  obtain ⟨F1, ⟨l, B, e⟩, _⟩ := h.get
  refine ⟨l, B, fun H' B' O => h.turn fun F1 ⟨l1, B1, e1⟩ m => ?_⟩
  obtain ⟨st, ns, h1, h2, _⟩ := B
  obtain ⟨st1, ns1, g1, g2, _⟩ := B1
  rw [h1] at g1
  cases g1
  exact ⟨F1, ⟨l, B', e1⟩, .of m fun q o n e0 => O q o (fun z => n ((e1 q).mpr (.inl z))) (fun z => n ((e1 q).mpr (.inr z))) e0, fun q f => .inl f⟩
theorem St.dat {p : Addr} {ds : List Dat} (h : St T H0 F0 (datT K p ds :: As) H) : ∃ xs, H p = some (.lst xs) ∧ Iss K H xs ds := by
  obtain ⟨F1, ⟨xs, a, i, _⟩, _⟩ := h.get
  exact ⟨xs, a, i⟩
/-- a list of values seen as one of data -/
theorem St.asDat {p : Addr} {xs : List V} {ds : List Dat} (h : St T H0 F0 (lstT p xs :: As) H) (i : Iss K H xs ds) : St T H0 F0 (datT K p ds :: As) H := h.see fun F1 ⟨a, e⟩ => ⟨xs, a, i, e⟩
theorem St.putDat {p : Addr} {ds es : List Dat} {ys : List V} (h : St T H0 F0 (datT K p ds :: As) H) (i : Iss K H ys es) : St T H0 F0 (datT K p es :: As) (L2.upd H p (.lst ys)) ∧ SmT H (L2.upd H p (.lst ys)) :=
  h.turn fun F1 ⟨xs, a, _, e⟩ m => by
    have hm : MutAt H p := ⟨_, a, .lst⟩
    have mv : Mv T F1 H (L2.upd H p (.lst ys)) := .upd ((e p).mpr rfl) hm
    exact ⟨F1, ⟨ys, upd_same, i.keep (mv.smT m), e⟩, mv, fun q f => .inl f⟩
end
end K3

set_option Elab.async false
set_option linter.all false
set_option maxRecDepth 100000
set_option maxHeartbeats 4000000
/-! KMt: methods of the program's classes, by class and name; rules for what they do -/
namespace K3
open PySem PySem.Spec PyProof.Rows L2
/-- a method as it stands in its class -/
structure DfM (K : PySem.W.Frag) (C : Addr) (m qual : Str) (st : Stmt) (ps : List Str) : Prop where
  ex : ∃ (f : Addr) (fd : FuncData), FunD K m qual (defArgs st) (defBody st) (defScope st) [] [] f fd ∧ Meth K C m f ∧ Binds K fd ps []
/-- .. and its promise -/
structure Mth (P : Program) (w : World) (K : PySem.W.Frag) (mg : Str → Option Value) (base : Heap) (CX : CXT) (k : Nat) (C : Addr) (m : Str) (ps : List Str) (sp : Sp) : Prop where
  ex : ∃ (f : Addr) (fd : FuncData), FnOk P w K mg base CX k f fd ps sp ∧ Meth K C m f ∧ Binds K fd ps []
section
variable {P : Program} {w : World} {K : PySem.W.Frag} {mg : Str → Option Value} {base : Heap}
theorem DfM.ok {C : Addr} {m qual : Str} {st : Stmt} {N ps : List Str} {k : Nat} {sp : Sp} (D : DfM K C m qual st ps) (S : FnScope N ps (defScope st)) (len : ∀ vs H Q E, sp vs H Q E → vs.length = ps.length)
    (hbody : ∀ (f : Addr) (cdv : Value) (A : Around) (outer : List Env) (s : Shared) (H : Hp) (vs : List V) (Q : VK) (E : XK), Room k (A.deeper (envOfC qual (defScope st) s.heap.objs.size f cdv)) → sp vs H Q E →
      ∃ t, PSs (cxOf CX0 P w K mg base N qual (defScope st) f cdv A outer s H E).nox (defBody st) t ∧ t { nx := fun _ H' => Q .non H', rt := Q } (start N vs) H) : Mth P w K mg base CX0 (k + 1) C m ps sp := by
  obtain ⟨f, fd, F, hm, hb⟩ := D.ex
  refine ⟨f, fd, F.ok S len fun cdv A outer s H vs Q E hr hsp => ?_, hm, hb⟩
  obtain ⟨t, h, q⟩ := hbody f cdv A outer s H vs Q E hr hsp
  exact ⟨t, h.nox, q⟩
theorem DfM.okX {C : Addr} {m qual : Str} {st : Stmt} {N ps : List Str} {k : Nat} {sp : Sp} (D : DfM K C m qual st ps) (S : FnScope N ps (defScope st)) (len : ∀ vs H Q E, sp vs H Q E → vs.length = ps.length)
    (hbody : ∀ (f : Addr) (cdv : Value) (A : Around) (outer : List Env) (s : Shared) (H : Hp) (vs : List V) (Q : VK) (E : XK), Room k (A.deeper (envOfC qual (defScope st) s.heap.objs.size f cdv)) → sp vs H Q E →
      ∃ t, PSs (cxOf (L2.CX P w) P w K mg base N qual (defScope st) f cdv A outer s H E) (defBody st) t ∧ t { nx := fun _ H' => Q .non H', rt := Q } (start N vs) H) : Mth P w K mg base (L2.CX P w) (k + 1) C m ps sp := by
  obtain ⟨f, fd, F, hm, hb⟩ := D.ex
  exact ⟨f, fd, F.ok S len fun cdv A outer s H vs Q E hr hsp => hbody f cdv A outer s H vs Q E hr hsp, hm, hb⟩
/-- a promise that raises, where nothing may be raised -/
theorem FnOk.calm {k : Nat} {f : Addr} {fd : FuncData} {ps : List Str} {sp : Sp} (G : FnOk P w K mg base (L2.CX P w) k f fd ps sp) : FnOk P w K mg base CX0 k f fd ps (fun vs H Q _ => sp vs H Q fun _ _ _ => False) :=
  ⟨fun vs H Q E h => G.len vs H Q _ h, fun A outer s H args us vs Q E hr e0 hbt r h => codeAny_mono (G.run A outer s H args us vs Q (fun _ _ _ => False) hr e0 hbt r h) fun r s' hq => by
    cases r with
    | error e =>
      obtain ⟨_, _, _, _, _, _, _, _, _, _, _, _, _, _, _, _, z⟩ := hq
    | ok fl =>
      cases fl with
      | ret u => exact hq
      | next => exact hq
      | brk => exact hq
      | cont => exact hq⟩
theorem Mth.calm {C : Addr} {m : Str} {k : Nat} {ps : List Str} {sp : Sp} (M : Mth P w K mg base (L2.CX P w) k C m ps sp) : Mth P w K mg base CX0 k C m ps (fun vs H Q _ => sp vs H Q fun _ _ _ => False) := by
  obtain ⟨f, fd, G, hm, hb⟩ := M.ex
  exact ⟨f, fd, FnOk.calm G, hm, hb⟩
theorem Mth.imp {CX : CXT} {C : Addr} {m : Str} {k : Nat} {ps : List Str} {sp sp' : Sp} (M : Mth P w K mg base CX k C m ps sp) (h : ∀ vs H Q E, sp' vs H Q E → sp vs H Q E) : Mth P w K mg base CX k C m ps sp' := by
  obtain ⟨f, fd, G, hm, hb⟩ := M.ex
  exact ⟨f, fd, G.imp h, hm, hb⟩
theorem Fn.imp {CX : CXT} {x : Str} {k : Nat} {ps : List Str} {sp sp' : Sp} (M : Fn P w K mg base CX k x ps sp) (h : ∀ vs H Q E, sp' vs H Q E → sp vs H Q E) : Fn P w K mg base CX k x ps sp' := by
  obtain ⟨f, fd, G, hm, hk, hb⟩ := M.ex
  exact ⟨f, fd, G.imp h, hm, hk, hb⟩
end
section
variable {X : Cx} {CX : CXT} {k : Nat} {C : Addr} {m : Str} {ps : List Str} {sp : Sp} {E : XK} {o e : Expr} {es : List Expr} {ta : TE} {t : TA} {apos pos : Pos} {pl : Sem Bool}
theorem pe_m (he : PE X o ta) (c : Cls X.K C) (M : Mth X.prog X.w X.K X.mg X.base CX k C m ps sp) (hr : Room k X.A) (hx : Passes CX X E) (ha : PA X (e :: es) t)
    (hst : starEach (e :: es) X.env = (false, eval e X.env) :: starEach es X.env := by rfl) (hpl : (backTo pos (starEach es X.env)).any (·.1) = false := by rfl)
    (ht : eval (.Call (.Attribute o m apos) (e :: es) [] pos) X.env = (do
      let ov ← eval o X.env
      standAt apos.atName
      let (f, first) ← holding [ov] (getMethod ov m pl)
      callWith pos f first (backTo pos (starEach (e :: es) X.env)) (backToKw pos (keywordEach [] X.env))) := by rfl) :
    PE X (.Call (.Attribute o m apos) (e :: es) [] pos) (tMeth C m sp [] E ta t) := by
  obtain ⟨f, fd, G, hm, hb⟩ := M.ex
  exact pe_meth he c hm G hr hb .nil hx ha hst hpl ht
theorem pe_m0 (he : PE X o ta) (c : Cls X.K C) (M : Mth X.prog X.w X.K X.mg X.base CX k C m ps sp) (hr : Room k X.A) (hx : Passes CX X E)
    (ht : eval (.Call (.Attribute o m apos) [] [] pos) X.env = (do
      let ov ← eval o X.env
      standAt apos.atName
      let (f, first) ← holding [ov] (getMethod ov m pl)
      callWith pos f first (backTo pos (starEach [] X.env)) (backToKw pos (keywordEach [] X.env))) := by rfl) :
    PE X (.Call (.Attribute o m apos) [] [] pos) (tMeth C m sp [] E ta tNil) := by
  obtain ⟨f, fd, G, hm, hb⟩ := M.ex
  exact pe_meth0 he c hm G hr hb .nil hx ht
theorem pe_c0 {x : Str} {p : Pos} (F : Fn X.prog X.w X.K X.mg X.base CX k x ps sp) (hr : Room k X.A) (hx : Passes CX X E) (hg : Gl X x := by rfl) (hdb : (x == ("__debug__" : Str)) = false := by decide) : PE X (.Call (.Name x p) [] [] pos) (tCall sp [] E tNil) := by
  obtain ⟨f, fd, G, hm, hk, hb⟩ := F.ex
  exact pe_call0 G hr hg hm hk hb .nil hx hdb
/-- what passes wherever one stands -/
theorem passes_at (h : ∀ σ, PassesAt CX X σ E) : Passes CX X E := fun pins σ H s e s' I q => h σ pins H s e s' I q
theorem pe_gstr {x : Str} {z : Str} {p : Pos} (h : ∃ t, X.mg x = some (.str z t)) (hg : Gl X x := by rfl) (hd : (x == ("__debug__" : Str)) = false := by decide) : PE X (.Name x p) (tC (.str z)) := by
  obtain ⟨t, h⟩ := h
  exact pe_glob hg h ⟨t, rfl⟩ hd
/-- e.f, the class told -/
theorem pe_fldK {K : PySem.W.Frag} (eK : X.K = K) {f : Str} (he : PE X o ta) (hb : attributeBase o f X.env (eval o X.env) = eval o X.env) : PE X (.Attribute o f pos) (tFld K ta f) := by
  subst eK
  exact pe_fld he hb
end
/-- a class of refusals, as it stands at a name of the module -/
structure ExcN (K : PySem.W.Frag) (mg : Str → Option Value) (x : Str) (C : Addr) : Prop where
  g : mg x = some (.ref C)
  x : PySem.W.excIn K C [.type "ValueError", .type "Exception", .type "BaseException", .type "object"] "ValueError.__new__" = true
  k : PySem.W.keepIn K (.ref C) = true
  b : PySem.W.subIn K (.ref C) (.type "BaseException") = some true
  t : PySem.W.typeIn K (.ref C) = some (.type "type")
theorem pe_cX {X : Cx} {CX : CXT} {k : Nat} {ps : List Str} {sp : Sp} {E : L2.St → XK} {x : Str} {p pos : Pos} {e : Expr} {es : List Expr} {t : TA} (F : Fn X.prog X.w X.K X.mg X.base CX k x ps sp) (hr : Room k X.A) (hx : ∀ σ, PassesAt CX X σ (E σ)) (ha : PA X (e :: es) t) (hg : Gl X x := by rfl) (hdb : (x == ("__debug__" : Str)) = false := by decide)
    (he : starEach (e :: es) X.env = (false, eval e X.env) :: starEach es X.env := by rfl) (hpl : (backTo pos (starEach es X.env)).any (·.1) = false := by rfl) : PE X (.Call (.Name x p) (e :: es) [] pos) (tCallS sp E t) := by
  obtain ⟨f, fd, G, hm, hk, hb⟩ := F.ex
  exact pe_callS G hr hg hm hk hb hx ha hdb he hpl
/-! ### list.extend with a tuple -/
theorem ext_tup (l : Addr) (items : Array Value) (n : Nat) (b : Addr) (o : Obj) (items2 : Array Value) (n2 : Nat) (hc : o.cls = .type "tuple") (hd : o.data = .seq items2 n2) (hs0 : ¬(!items.isEmpty && Builtin.List.listTooLong (items.size + items2.size)) = true) (hs1 : items.size ≤ sizeLine) (hs2 : items.size + items2.size ≤ sizeLine + 1) :
    Meets (Builtin.«list.extend» ⟨[.ref l, .ref b], []⟩) (fun _ R s => s.heap.get? l = some { cls := .type "list", dict := none, data := .seq items n, slots := #[] } ∧ s.heap.get? b = some o ∧ R (.ok (.ret Value.none)) { s with heap := s.heap.update l (Obj.mapSeq fun x => x ++ items2) }) :=
  .of_wp fun prog w A R s h => by
    obtain ⟨hl, hb, h⟩ := h
    show wpAny _ A.in1 (Builtin.List.listExtendWith (.ref l) (.ref b) .none) _ _ s
    unfold Builtin.List.listExtendWith
    refine wpAny_bind (wpAny_typeOf ⟨o, hb, hc⟩ ?_)
    have h1 : (Builtin.List.listSameRef (.ref l) (.ref b) || Value.type "tuple" == Value.type "list" || Value.type "tuple" == Value.type "tuple") = true := by simp
    simp only [h1, if_true]
    refine wpAny_bind ?_
    unfold Builtin.List.listItems
    refine wpAny_bind (wpAny_seqItems hb hd (wpAny_pure ?_))
    refine wpAny_bind ?_
    refine wpAny_bind (wpAny_seqItems hl rfl (wpAny_pure ?_))
    rw [if_neg hs0]
    show wpAny _ A.in1 (updateSeq l (· ++ items2) >>= fun _ => ret .none) _ _ s
    refine wpAny_bind (wpAny_updateSeq hl rfl ?_ hs1 (by rw [Array.size_append]; exact hs2))
    exact wpAny_pure ⟨_, rfl, h⟩
def rExtT (K : PySem.W.Frag) : V → List V → Hp → VK → Prop := fun x vs H Q => ∃ l b xs zs, x = .ref l ∧ vs = [.ref b] ∧ H l = some (.lst xs) ∧ SqT K H b zs ∧ xs.length + zs.length ≤ sizeLine ∧ Q .non (L2.upd H l (.lst (xs ++ zs)))
theorem mt_extendT {X : Cx} {K : PySem.W.Frag} (eK : X.K = K) : MtM X "list.extend" (rExtT K) := by
  subst eK
  intro pins s σ H x vs v us Q I rx rv h
  obtain ⟨l, b, xs, zs, rfl, rfl, hH, hB, hz, q⟩ := h
  cases rx
  obtain ⟨u, rfl, ru⟩ := rv.one
  cases ru
  obtain ⟨z, its, n, r, hl, e⟩ := I.lstM hH
  obtain ⟨its2, r2, ⟨o2, e2, c2, n2, d2⟩, hl2⟩ := I.tuple hB
  have l2 := r2.length
  have hsz : its.toArray.size + its2.toArray.size ≤ sizeLine := by rw [List.size_toArray, List.size_toArray]; omega
  have hlong : ¬ (!its.toArray.isEmpty && Builtin.List.listTooLong (its.toArray.size + its2.toArray.size)) = true := by
    rw [notLongL hsz, Bool.and_false]
    exact Bool.false_ne_true
  refine call_meets F.slot_list_extend ⟨_, e, rfl⟩ F.entry_list_extend (F.args_list_extend_2 _ _)
    (ext_tup l its.toArray n b o2 its2.toArray n2 c2 d2 hlong (by rw [List.size_toArray]; omega) (by omega)) ⟨e, e2, ?_⟩
  refine ⟨.non, _, I.lset (its' := its ++ its2) hH e (by simp) (r.append r2) ?_, rfl, q⟩
  rw [List.length_append]
  omega
end K3

set_option Elab.async false
set_option linter.all false
set_option maxRecDepth 100000
set_option maxHeartbeats 4000000
/-! KM: helper defs that make lambdas: their code objects are told, and what they keep -/
namespace K3
open PySem PySem.Spec PyProof.Rows L2
/-- a def by its name, its code object at c -/
structure DfT (K : PySem.W.Frag) (mg : Str → Option Value) (x : Str) (st : Stmt) (ps : List Str) (c : Addr) : Prop where
  ex : ∃ (f : Addr) (fd : FuncData), FunD K x x (defArgs st) (defBody st) (defScope st) [] [] f fd ∧ fd.code = .ref c ∧ mg x = some (.ref f) ∧ Binds K fd ps []
section
variable {P : Program} {w : World} {K : PySem.W.Frag} {mg : Str → Option Value} {base : Heap}
theorem DfT.ok {x : Str} {st : Stmt} {N ps : List Str} {k : Nat} {sp : Sp} {c : Addr} (D : DfT K mg x st ps c) (S : FnScope N ps (defScope st)) (len : ∀ vs H Q E, sp vs H Q E → vs.length = ps.length)
    (hbody : ∀ (f : Addr) (A : Around) (outer : List Env) (s : Shared) (H : Hp) (vs : List V) (Q : VK) (E : XK), Room k (A.deeper (envOfC x (defScope st) s.heap.objs.size f (.ref c))) → sp vs H Q E →
      ∃ t, PSs (cxOf CX0 P w K mg base N x (defScope st) f (.ref c) A outer s H E).nox (defBody st) t ∧ t { nx := fun _ H' => Q .non H', rt := Q } (start N vs) H) : Fn P w K mg base CX0 (k + 1) x ps sp := by
  obtain ⟨f, fd, F, hc, hm, hb⟩ := D.ex
  exact ⟨f, fd, okT F hc S len fun A outer s H vs Q E hr hsp => hbody f A outer s H vs Q E hr hsp, hm, F.kp, hb⟩
/-- .. made from what the head tells -/
theorem dfT_of {x : Str} {st : Stmt} {ps : List Str} {f c : Addr} {fd : FuncData} (F : FunD K x x (defArgs st) (defBody st) (defScope st) [] [] f fd) (hc : fd.code = .ref c) (hm : mg x = some (.ref f)) (hb : Binds K fd ps []) : DfT K mg x st ps c := ⟨f, fd, F, hc, hm, hb⟩
end
/-- all stays but the box and the tables of code objects -/
def OutT (b l : Addr) (H H' : Hp) : Prop := ∀ p o, p ≠ b → p ≠ l → H p = some o → (∀ ps, o ≠ .tbl ps) → H' p = some o
theorem OutT.refl {b l : Addr} {H : Hp} : OutT b l H H := fun _ _ _ _ e _ => e
theorem OutT.trans {b l : Addr} {H H1 H2 : Hp} (a : OutT b l H H1) (c : OutT b l H1 H2) : OutT b l H H2 := fun p o h1 h2 e n => c p o h1 h2 (a p o h1 h2 e n) n
theorem OutT.same {b l : Addr} {H H' : Hp} (s : Same H H') : OutT b l H H' := fun p o _ _ e _ => s p o e
theorem OutT.out {b l : Addr} {H H' : Hp} (s : Out b l H H') : OutT b l H H' := fun p o h1 h2 e _ => s p o h1 h2 e
theorem OutT.ext {b l : Addr} {H H' : Hp} (e : LamX.ExtN H H') : OutT b l H H' := fun p o _ _ h n => e p o h n
theorem OutT.lst {b l p : Addr} {H H' : Hp} {xs : List V} (o : OutT b l H H') (h1 : p ≠ b) (h2 : p ≠ l) (h : H p = some (.lst xs)) : H' p = some (.lst xs) := o p _ h1 h2 h fun _ z => by cases z
end K3

set_option Elab.async false
set_option linter.all false
set_option maxRecDepth 100000
set_option maxHeartbeats 4000000
/-! KBx: drawing from the box, what stands beside it told as things; tuples joined; a list picked from -/
namespace K3
open PySem PySem.Spec PyProof.Rows L2
section
variable {T : List (Addr × Str)} {H0 H H' : Hp} {F0 : Foot} {A B : Thing} {As : List Thing} {b q p : Addr} {xs ys : List V}
theorem St.swap (h : St T H0 F0 (A :: B :: As) H) : St T H0 F0 (B :: A :: As) H := h.perm (List.Perm.swap B A As)
theorem St.rot (h : St T H0 F0 (A :: B :: As) H) : St T H0 F0 (B :: (As ++ [A])) H := h.perm ((List.perm_append_comm (l₁ := [A]) (l₂ := B :: As)))
theorem St.del (h : St T H0 F0 (A :: As) H) : St T H0 F0 As H := (h.perm (List.perm_append_comm (l₁ := [A]) (l₂ := As))).drop
theorem St.new2 (h : St T H0 F0 (A :: As) H) (n : H q = none) : St T H0 F0 (A :: lstT q xs :: As) (L2.upd H q (.lst xs)) := (h.new n).swap
theorem St.lst2 (h : St T H0 F0 (A :: lstT q xs :: As) H) : H q = some (.lst xs) := h.swap.lst
theorem St.del2 (h : St T H0 F0 (A :: B :: As) H) : St T H0 F0 (A :: As) H := h.swap.del
theorem St.lst3 (h : St T H0 F0 (A :: B :: lstT q xs :: As) H) : H q = some (.lst xs) := h.del.swap.lst
theorem St.put2 (h : St T H0 F0 (A :: lstT p xs :: As) H) : St T H0 F0 (A :: lstT p ys :: As) (L2.upd H p (.lst ys)) := (St.put h.swap).swap
theorem St.smPut2 (h : St T H0 F0 (A :: lstT p xs :: As) H) {o : HO} : SmT H (L2.upd H p o) := fun b u e k => by
  by_cases c : b = p
  · rw [c, h.lst2] at e
    have e := Option.some.inj e
    rcases k with ⟨xs, k⟩ | ⟨ob, xs, k⟩ <;> rw [k] at e <;> cases e
  · exact (upd_ne c).trans e
end
/-- a draw -/
def spDraw (T : List (Addr × Str)) : Sp := fun vs H Q _ => ∃ (b : Addr) (m : Int), vs = [.ref b, .int m] ∧ ∃ (H0 : Hp) (F0 : Foot) (As : List Thing), St T H0 F0 (boxT b :: As) H ∧ 0 < m ∧ m < 2000000000000000000 ∧
  ∀ (H' : Hp) (v : Int), St T H0 F0 (boxT b :: As) H' → SmT H H' → 0 ≤ v → v < m → Q (.int v) H'
section
variable {P : Program} {w : World} {K : PySem.W.Frag} {mg : Str → Option Value} {base : Heap}
theorem draw_of {T : List (Addr × Str)} {CX : CXT} {k : Nat} {ps : List Str} (G : Fn P w K mg base CX k "_law_take" ps spTake) : Fn P w K mg base CX k "_law_take" ps (spDraw T) := G.imp fun vs H Q E h => by
  obtain ⟨b, m, rfl, H0, F0, As, st, m0, m1, k⟩ := h
  obtain ⟨l, B, mv⟩ := st.drawn
  refine ⟨b, l, m, rfl, B, m0, m1, fun H' v B' O v0 v1 => ?_⟩
  obtain ⟨st', sm⟩ := mv H' B' O
  exact k H' v st' sm v0 v1
/-- the law's beginning: a box -/
def spBox (T : List (Addr × Str)) (K : PySem.W.Frag) : Sp := fun vs H Q _ => ∃ (a : Addr) (ns : List Int) (H0 : Hp) (F0 : Foot) (As : List Thing), vs = [.ref a] ∧ SqL K H a (ns.map V.int) ∧ ns.length ≤ 63 ∧ St T H0 F0 As H ∧ ∀ H' b, St T H0 F0 (boxT b :: As) H' → SmT H H' → Q (.ref b) H'
end
theorem ix_listK' {X : Cx} {K : PySem.W.Frag} (e : X.K = K) : IxR X (rIxL K) := by
  subst e
  exact ix_list
theorem sl_listK' {X : Cx} {K : PySem.W.Frag} (e : X.K = K) : SlR X (rSlL K) := by
  subst e
  exact sl_list
def rCatT (K : PySem.W.Frag) : R2 := fun x y H Q => ∃ a b xs ys, x = .ref a ∧ y = .ref b ∧ SqT K H a xs ∧ SqT K H b ys ∧ xs.length + ys.length ≤ sizeLine ∧ ∀ p H', Same H H' → SqT K H' p (xs ++ ys) → Q (.ref p) H'
theorem op_catTK {X : Cx} {K : PySem.W.Frag} (e : X.K = K) : OpR X (binaryOp .Add) (rCatT K) := by
  subst e
  intro pins s σ H x y v u Q I rx ry ⟨a, b, xs, ys, ex, ey, ha, hb, hz, q⟩
  refine op_catA pins s σ H x y v u Q I rx ry ⟨a, b, xs, ys, ex, ey, ha, hb, hz, fun e => q b H (.refl H) (by rw [e]; exact hb), fun _ e => q a H (.refl H) (by rw [e, List.append_nil]; exact ha), fun _ _ p np => q p _ (Same.upd np) (SqT.of upd_same)⟩
theorem cut_to (xs : List V) (m : Nat) : cutV xs none (some (m : Int)) = xs.take m := by
  unfold cutV
  rw [HT.sIx_none, HT.sIx_nat, Nat.sub_zero, List.drop_zero]
  by_cases c : m ≤ xs.length
  · rw [Nat.min_eq_left c]
  · rw [Nat.min_eq_right (by omega), List.take_length, List.take_of_length_le (by omega)]
theorem cut_from (xs : List V) (m : Nat) : cutV xs (some (m : Int)) none = xs.drop m := by
  unfold cutV
  rw [HT.sIx_none, HT.sIx_nat]
  by_cases c : m ≤ xs.length
  · rw [Nat.min_eq_left c, List.take_of_length_le (by rw [List.length_drop]; omega)]
  · rw [Nat.min_eq_right (by omega), List.drop_length, List.drop_of_length_le (by omega)]
    exact List.take_nil
/-- an item at a drawn place -/
theorem pickV {zs : List V} {v : Int} (h0 : 0 ≤ v) (h1 : v < (zs.length : Int)) : ∃ y, y ∈ zs ∧ atI zs v = some y := by
  obtain ⟨n, rfl⟩ := Int.eq_ofNat_of_zero_le h0
  have hn : n < zs.length := by omega
  exact ⟨zs[n], List.getElem_mem hn, at_of (z := (n : Int)) (j := n) rfl (List.getElem?_eq_getElem hn)⟩
theorem pickZ {zs : List Int} {v : Int} (h0 : 0 ≤ v) (h1 : v < (zs.length : Int)) : ∃ y, y ∈ zs ∧ atI (zs.map V.int) v = some (.int y) := by
  obtain ⟨n, rfl⟩ := Int.eq_ofNat_of_zero_le h0
  have hn : n < zs.length := by omega
  exact ⟨zs[n], List.getElem_mem hn, at_of (z := (n : Int)) (j := n) rfl (by rw [List.getElem?_map, List.getElem?_eq_getElem hn]; rfl)⟩
end K3

set_option Elab.async false
set_option linter.all false
set_option maxRecDepth 100000
set_option maxHeartbeats 4000000
/-! KQ: == and != of data with a Lean type -/
namespace K3
open PySem PySem.Spec PyProof.Rows L2
/-- x is the data a -/
def IsD {α : Type} [DecidableEq α] [PySem.W.Datum α] (K : PySem.W.Frag) (H : Hp) (x : V) (a : α) : Prop := Dp K H x (PySem.W.Datum.toD a)
section
variable {α β : Type} [DecidableEq α] [PySem.W.Datum α] [DecidableEq β] [PySem.W.Datum β] {K : PySem.W.Frag} {H H' : Hp}
theorem isD_int {i : Int} : IsD K H (.int i) i := Dp.int i
theorem isD_bl {b : Bool} : IsD K H (.bl b) b := Dp.bl b
theorem isD_str {z : Str} : IsD K H (.str z) z := Dp.str z
theorem dpAll_of {xs : List V} {as : List α} (h : Paired (IsD K H) xs as) : DpAll K H xs (as.map PySem.W.Datum.toD) := by
  induction h with
  | nil => exact .nil
  | cons h _ ih => exact .cons h ih
theorem isD_lst {p : Addr} {xs : List V} {as : List α} (hp : SqL K H p xs) (h : Paired (IsD K H) xs as) : IsD K H (.ref p) as := Dp.lst hp (dpAll_of h)
theorem isD_pair {p : Addr} {x y : V} {a : α} {b : β} (hp : SqT K H p [x, y]) (h1 : IsD K H x a) (h2 : IsD K H y b) : IsD K H (.ref p) (a, b) := Dp.tup hp (.cons h1 (.cons h2 .nil))
theorem isD_ints {p : Addr} {ns : List Int} (hp : SqL K H p (ns.map V.int)) : IsD K H (.ref p) ns := Dp.lst hp (dpAll_intsD ns)
where
  dpAll_intsD : ∀ ns : List Int, DpAll K H (ns.map V.int) (ns.map PySem.W.Datum.toD)
    | [] => .nil
    | n :: r => .cons (.int n) (dpAll_intsD r)
theorem isD_nil {p : Addr} (hp : SqL K H p []) : IsD K H (.ref p) ([] : List α) := Dp.lst hp .nil
end
def rEqM (α : Type) [DecidableEq α] [PySem.W.Datum α] (K : PySem.W.Frag) (neg : Bool) : R2 := fun x y H Q => ∃ a b : α, IsD K H x a ∧ IsD K H y b ∧ Q (.bl (if neg then !decide (a = b) else decide (a = b))) H
section
variable {X : Cx} {α : Type} [DecidableEq α] [PySem.W.Datum α]
theorem op_eqM (hu : X.A.units + 64 < cLine) (hd : PySem.W.Datum.depth α ≤ 60) : OpR X (compareOp .Eq) (rEqM α X.K false) := by
  intro pins s σ H x y v u Q I rx ry h
  obtain ⟨a, b, h1, h2, q⟩ := h
  obtain ⟨as, r1⟩ := Dp.reads I _ x v h1 rx
  obtain ⟨bs, r2⟩ := Dp.reads I _ y u h2 ry
  have d1 := PySem.W.Datum.depth_le a
  refine PySem.SeqAt.eq_plain r1 r2 (PySem.W.Datum.plain a) (PySem.W.Datum.plain b) (by omega) ⟨.bl _, H, I, rfl, ?_⟩
  rw [PySem.W.Datum.eqv]
  exact q
theorem op_neM (hu : X.A.units + 64 < cLine) (hd : PySem.W.Datum.depth α ≤ 60) : OpR X (compareOp .NotEq) (rEqM α X.K true) := by
  intro pins s σ H x y v u Q I rx ry h
  obtain ⟨a, b, h1, h2, q⟩ := h
  obtain ⟨as, r1⟩ := Dp.reads I _ x v h1 rx
  obtain ⟨bs, r2⟩ := Dp.reads I _ y u h2 ry
  have d1 := PySem.W.Datum.depth_le a
  refine PySem.SeqAt.ne_plain r1 r2 (PySem.W.Datum.plain a) (PySem.W.Datum.plain b) (by omega) ⟨.bl _, H, I, rfl, ?_⟩
  rw [PySem.W.Datum.eqv]
  exact q
end
end K3

set_option Elab.async false
set_option linter.all false
set_option maxRecDepth 100000
set_option maxHeartbeats 4000000
/-! KP: the law's words, values, kinds, drawn -/
namespace K3
open PySem PySem.Spec PyProof.Rows L2 SX
open PySem.Builtin.Str
/-- text * number -/
def rMulS : R2 := fun x y H Q => ∃ (z : Str) (k : Int), x = .str z ∧ y = .int k ∧ 0 ≤ k ∧ k < 1000 ∧ z.length < 1000 ∧ Q (.str (SX.S (List.replicate k.toNat z.cps.toList).flatten)) H
theorem foldl_cat : ∀ (n : Nat) (a : Array Nat) (acc : Array Nat), ((List.replicate n a).foldl (· ++ ·) acc).toList = acc.toList ++ (List.replicate n a.toList).flatten
  | 0, a, acc => by simp
  | n + 1, a, acc => by
    rw [List.replicate_succ, List.foldl_cons, foldl_cat n a (acc ++ a), List.replicate_succ, List.flatten_cons, Array.toList_append, List.append_assoc]
theorem flat_len {α : Type} : ∀ (n : Nat) (l : List α), (List.replicate n l).flatten.length = n * l.length
  | 0, l => by simp
  | n + 1, l => by
    rw [List.replicate_succ, List.flatten_cons, List.length_append, flat_len n l, Nat.succ_mul]
    omega
theorem op_smul {X : Cx} : OpR X (binaryOp .Mult) rMulS := by
  intro pins s σ H x y v u Q I rx ry h
  obtain ⟨z, k, rfl, rfl, h0, h1, hz, q⟩ := h
  obtain ⟨t, rfl⟩ := rx
  obtain ⟨t', rfl⟩ := ry
  have hsz : z.length * k.toNat < 1000 * 1000 := by
    have h2 : k.toNat < 1000 := by omega
    exact Nat.mul_lt_mul'' hz h2
  refine PySem.P.mul_str ?_ (fun a b => ?_) (fun a b => ?_) ?_
  · rw [decide_eq_false (by omega), decide_eq_false (by omega)]
    rfl
  · have k0 : (0 : Int) < k := by omega
    intro hgt
    have h3 : (z.length : Int) * k ≤ 2 ^ 63 - 1 := by
      have h4 : ((z.length * k.toNat : Nat) : Int) < 1000 * 1000 := by exact_mod_cast hsz
      rw [Int.natCast_mul, Int.toNat_of_nonneg h0] at h4
      omega
    have := (Int.le_ediv_iff_mul_le k0).mpr h3
    omega
  · unfold tooLong
    simp only [decide_eq_false_iff_not, sizeLine_eq]
    omega
  · have len : (S (List.replicate k.toNat z.cps.toList).flatten).length = k.toNat * z.length := by
      rw [S_len, flat_len]
      rfl
    by_cases c1 : k < 1
    · rw [if_pos c1]
      have e0 : k.toNat = 0 := by omega
      rw [e0] at q
      exact ⟨by decide, .str _, H, I.tok _, ⟨_, rfl⟩, q⟩
    rw [if_neg c1]
    by_cases c2 : (k == 1 || z.length == 0) = true
    · rw [if_pos c2]
      have e1 : S (List.replicate k.toNat z.cps.toList).flatten = z := by
        rcases Bool.or_eq_true_iff.mp c2 with c3 | c3
        · have : k.toNat = 1 := by
            have := eq_of_beq c3
            omega
          rw [this]
          show S (z.cps.toList ++ []) = z
          rw [List.append_nil]
        · have c4 : z.cps.toList = [] := List.eq_nil_of_length_eq_zero (by
            rw [Array.length_toList]
            exact eq_of_beq c3)
          have e5 : (List.replicate k.toNat z.cps.toList).flatten = z.cps.toList := by
            rw [c4]
            exact List.eq_nil_of_length_eq_zero (by rw [flat_len]; rfl)
          rw [e5]
      rw [e1] at q
      exact ⟨.str _, H, I, ⟨_, rfl⟩, q⟩
    · rw [if_neg c2]
      have e1 : (⟨(List.replicate k.toNat z.cps).foldl (· ++ ·) #[]⟩ : Str) = S (List.replicate k.toNat z.cps.toList).flatten := by
        refine TL.ext_tl ?_
        show ((List.replicate k.toNat z.cps).foldl (· ++ ·) #[]).toList = _
        rw [foldl_cat]
        rfl
      rw [e1]
      refine ⟨?_, .str _, H, I.tok _, ⟨_, rfl⟩, q⟩
      rw [len, sizeLine_eq, Nat.mul_comm]
      omega
theorem joinL_nil : ∀ ls : List (List Nat), TL.joinL [] ls = ls.flatten
  | [] => rfl
  | [p] => by
    rw [List.flatten_cons]
    exact (List.append_nil p).symm
  | p :: q :: r => by
    show p ++ ([] ++ TL.joinL [] (q :: r)) = _
    rw [joinL_nil (q :: r)]
    rfl
theorem cutS_to (l : List Nat) (m : Nat) : cutS (S l) none (some (m : Int)) = S (l.take m) := by
  unfold cutS
  rw [HT.sIx_none, HT.sIx_nat, Nat.sub_zero, List.drop_zero, S_len]
  congr 2
  by_cases c : m ≤ l.length
  · rw [Nat.min_eq_left c]
  · rw [Nat.min_eq_right (by omega), List.take_length, List.take_of_length_le (by omega)]
/-- the letters of a word -/
def Ltr (l : List Nat) : Prop := ∀ c ∈ l, 97 ≤ c ∧ c ≤ 122
def Lw (l : List Nat) : Prop := l.length ≤ 6 ∧ Ltr l
theorem Ltr.app {a b : List Nat} (h : Ltr a) (g : Ltr b) : Ltr (a ++ b) := fun c hc => (List.mem_append.mp hc).elim (h c) (g c)
theorem Ltr.take {a : List Nat} (h : Ltr a) (n : Nat) : Ltr (a.take n) := fun c hc => h c (List.mem_of_mem_take hc)
theorem Ltr.flat {ls : List (List Nat)} (h : ∀ l ∈ ls, Ltr l) : Ltr ls.flatten := fun c hc => by
  obtain ⟨l, hl, hc⟩ := List.mem_flatten.mp hc
  exact h l hl c hc
theorem pickS {zs : List Str} {v : Int} (h0 : 0 ≤ v) (h1 : v < (zs.length : Int)) : ∃ y, y ∈ zs ∧ atI (zs.map V.str) v = some (.str y) := by
  obtain ⟨y, hy, ya⟩ := pickV (zs := zs.map V.str) h0 (by rw [List.length_map]; exact h1)
  obtain ⟨z, hz, rfl⟩ := List.mem_map.mp hy
  exact ⟨z, hz, ya⟩
def letS : List Str := ["ab", "az", "abcdefghijklmnopqrstuvwxyz"]
theorem letS_ok {z : Str} (h : z ∈ letS) : Ltr z.cps.toList ∧ 2 ≤ z.length ∧ z.length ≤ 26 := by
  unfold letS at h
  simp only [List.mem_cons, List.not_mem_nil, or_false] at h
  rcases h with rfl | rfl | rfl <;> refine ⟨?_, by decide, by decide⟩ <;> intro c hc <;> revert c <;> decide
section
variable {P : Program} {w : World} {K : PySem.W.Frag} {mg : Str → Option Value} {base : Heap}
abbrev s__law_word : Stmt := top 48
abbrev N__law_word : List Str := ["_law_box", "_law_letters", "_law_many", "_law_found", "_law_k"]
abbrev P__law_word : List Str := ["_law_box"]
theorem sc__law_word : FnScope N__law_word P__law_word (defScope s__law_word) := ⟨rfl, rfl, rfl, by decide +kernel, rfl, by decide +kernel, by decide +kernel⟩
def spWord (T : List (Addr × Str)) : Sp := fun vs H Q _ => ∃ (b : Addr) (H0 : Hp) (F0 : Foot) (As : List Thing), vs = [.ref b] ∧ St T H0 F0 (boxT b :: As) H ∧
  ∀ H' l, St T H0 F0 (boxT b :: As) H' → SmT H H' → Lw l → Q (.str (S l)) H'
theorem ok_word {Ts : List (Addr × Str)} (T : Txt mg) (D0 : Df K mg "_law_word" s__law_word P__law_word) (G__law_take : Fn P w K mg base CX0 1 "_law_take" P__law_take (spDraw Ts)) : Fn P w K mg base CX0 2 "_law_word" P__law_word (spWord Ts) := by
  refine D0.ok sc__law_word (fun vs H Q E h => ?_) (fun f cdv A outer s H vs Q E hr h => ?_)
  · obtain ⟨b, H0, F0, As, rfl, _⟩ := h
    rfl
  · obtain ⟨b, H0', F0', As', rfl, stx, k⟩ := h
    have nd := sc__law_word.nd
    refine ⟨_, (pss_cons (ps_set (i := 1) nd rfl (by first | exact Or.inl rfl | exact Or.inr rfl) (pe_ix ix_list (pe_lst (pa_cons pe_str (pa_cons pe_str (pa_cons pe_str pa_nil)))) (pe_c G__law_take (hr.mono (by decide)) pass0 (pa_cons (pv 0) (pa_cons pe_int pa_nil))) (fun _ _ => rfl)))
  (pss_cons (ps_set (i := 2) nd rfl (by first | exact Or.inl rfl | exact Or.inr rfl) (pe_c G__law_take (hr.mono (by decide)) pass0 (pa_cons (pv 0) (pa_cons (pe_ix ix_list (pe_lst (pa_cons pe_int (pa_cons pe_int pa_nil))) (pe_c G__law_take (hr.mono (by decide)) pass0 (pa_cons (pv 0) (pa_cons pe_int pa_nil))) (fun _ _ => rfl)) pa_nil))))
  (pss_cons (ps_set (i := 3) nd rfl (by first | exact Or.inl rfl | exact Or.inr rfl) (pe_join pe_str (pe_lc (own := [("_law_k", 4)]) (g := gName 4) (by rfl) nd  (pi_range1 (by rfl) T.b_range (pa_cons (pv 2) pa_nil)) (blkOk_by (own := [("_law_k", 4)]) (N := N__law_word) (sc := defScope s__law_word) (by decide +kernel)) (fun _ _ _ _ _ => pg_name (i := 4) nd rfl (Or.inl rfl)) (fun _ _ _ _ _ => pts_nil) (fun _ _ _ _ _ => (pe_ix ix_str (pv 1) (pe_c G__law_take (hr.mono (by decide)) pass0 (pa_cons (pv 0) (pa_cons (pe_callB call_len_str (by rfl) T.b_len (by decide +kernel) (pa_cons (pv 1) pa_nil)) pa_nil))) (fun _ _ => rfl))))))
  (pss_one (ps_ret (pe_slice sl_str (pe_op op_add_str (pe_op op_smul pe_str (pe_c G__law_take (hr.mono (by decide)) pass0 (pa_cons (pv 0) (pa_cons pe_int pa_nil)))) (pv 3)) po_none (po_some pe_int))))))), ?_⟩
    obtain ⟨F0, hF, back⟩ := stx.step (Cs := [boxT b]) (Ds := As') (.refl _)
    have st : St Ts H F0 [boxT b] H := .start hF stx.tabs
    refine ⟨(by show 3 ≤ sizeLine; decide), fun q1 nq1 => ?_⟩
    have st1 := st.new2 (xs := letS.map V.str) nq1
    refine ⟨_, rfl, b, 3, rfl, _, _, _, st1, by decide, by decide, fun H2 x1 st2 _ x10 x11 => ?_⟩
    obtain ⟨z, hz, za⟩ := pickS (zs := letS) x10 x11
    obtain ⟨zl, z2, z26⟩ := letS_ok hz
    refine ⟨q1, _, x1, _, rfl, rfl, SqL.of st2.lst2, za, ?_⟩
    refine ⟨_, rfl, (by show 2 ≤ sizeLine; decide), fun q2 nq2 => ?_⟩
    have st3 := st2.del2.new2 (xs := [3, 7].map V.int) nq2
    refine ⟨_, rfl, b, 2, rfl, _, _, _, st3, by decide, by decide, fun H4 x2 st4 _ x20 x21 => ?_⟩
    obtain ⟨y, hy, ya⟩ := pickZ (zs := [3, 7]) x20 x21
    have yb : 0 < y ∧ y ≤ 7 := by
      simp only [List.mem_cons, List.not_mem_nil, or_false] at hy
      omega
    refine ⟨q2, _, x2, _, rfl, rfl, SqL.of st4.lst2, ya, b, y, rfl, _, _, _, st4.del2, yb.1, by omega, fun H5 n st5 _ n0 n1 => ?_⟩
    have zs : z.length ≤ sizeLine := by
      have : sizeLine = 16777216 := sizeLine_eq
      omega
    refine ⟨⟨_, rfl⟩, _, rfl, _, rfl, by omega, by omega, fun pk npk => ?_⟩
    refine lc_all (walk_range (lo := 0)) (fun m H' => ∃ ls : List (List Nat), St Ts H F0 (boxT b :: [lstT pk ((ls.map S).map V.str)]) H' ∧ ls.length = m ∧ ∀ l ∈ ls, Ltr l ∧ l.length = 1) ⟨[], st5.new2 npk, rfl, (fun l hl => nomatch hl)⟩ (fun _ _ _ _ => True.intro) ?_ ?_
    · rintro m x H6 H6' hm ⟨ls, st6, hlen, hls⟩ ⟨rfl, rfl⟩
      refine ⟨_, rfl, _, rfl, _, rfl, z, rfl, zs, b, z.length, rfl, _, _, _, st6, by omega, by omega, fun H7 v st7 _ v0 v1 => ?_⟩
      obtain ⟨j, rfl⟩ := Int.eq_ofNat_of_zero_le v0
      have hj : j < z.cps.toList.length := by
        rw [Array.length_toList]
        have : (j : Int) < (z.cps.size : Int) := v1
        omega
      refine ⟨z, j, z.cps.toList[j], rfl, rfl, zs, atI_nat (List.getElem?_eq_getElem hj), _, st7.lst2, ?_, ls ++ [[z.cps.toList[j]]], ?_, ?_, fun l hl => ?_⟩
      · rw [List.length_map, List.length_map, sizeLine_eq]
        omega
      · have := st7.put2 (ys := ((ls ++ [[z.cps.toList[j]]]).map S).map V.str)
        rw [List.map_append, List.map_append] at this ⊢
        exact this
      · rw [List.length_append, hlen]
        rfl
      · rcases List.mem_append.mp hl with hl | hl
        · exact hls l hl
        · rw [List.mem_singleton.mp hl]
          exact ⟨fun c hc => by
            rw [List.mem_singleton.mp hc]
            exact zl _ (List.getElem_mem hj), rfl⟩
    rintro H6 ⟨ls, st6, hlen, hls⟩
    have l7 : ls.length ≤ 7 := by omega
    have sum : ((ls.map S).map (·.length)).sum = ls.length := by
      have : ((ls.map S).map (·.length)) = List.replicate ls.length 1 := by
        refine List.eq_replicate_iff.mpr ⟨by rw [List.length_map, List.length_map], fun q hq => ?_⟩
        obtain ⟨s1, hs1, rfl⟩ := List.mem_map.mp hq
        obtain ⟨l, hl, rfl⟩ := List.mem_map.mp hs1
        rw [S_len]
        exact (hls l hl).2
      rw [this, List.sum_replicate_nat, Nat.mul_one]
    refine ⟨_, pk, ls.map S, rfl, rfl, .inl (SqL.of st6.lst2), ?_, ?_⟩
    · rw [sum]
      show _ + _ * 0 ≤ _
      omega
    rw [show Txt.join (Str.ofString "") (ls.map S) = S ls.flatten from (join_S [] ls).trans (congrArg S (joinL_nil ls))]
    have lf : Ltr ls.flatten := Ltr.flat fun l hl => (hls l hl).1
    have ll : ls.flatten.length = ls.length := by
      rw [List.length_flatten]
      rw [← sum, List.map_map]
      congr 1
    refine ⟨_, rfl, b, 2, rfl, _, _, _, st6.del2, by decide, by decide, fun H7 x3 st7 _ x30 x31 => ⟨_, x3, rfl, rfl, x30, by omega, by decide, ?_⟩⟩
    have fl : (List.replicate x3.toNat (Str.ofString "abab").cps.toList).flatten.length ≤ 4 := by
      rw [flat_len]
      show _ * 4 ≤ 4
      omega
    have lr : Ltr (List.replicate x3.toNat (Str.ofString "abab").cps.toList).flatten := Ltr.flat fun l hl => by
      rw [(List.mem_replicate.mp hl).2]
      intro c hc
      revert c
      decide
    have sz : (S (List.replicate x3.toNat (Str.ofString "abab").cps.toList).flatten).length + (S ls.flatten).length ≤ sizeLine := by
      rw [S_len, S_len, ll]
      have : sizeLine = 16777216 := sizeLine_eq
      omega
    refine ⟨_, rfl, _, _, rfl, rfl, sz, ?_⟩
    rw [S_cat]
    refine ⟨_, rfl, _, rfl, ?_, ?_⟩
    · rw [S_len, List.length_append, ll]
      have : sizeLine = 16777216 := sizeLine_eq
      omega
    rw [show cutS (S ((List.replicate x3.toNat (Str.ofString "abab").cps.toList).flatten ++ ls.flatten)) none (some 6) = S (((List.replicate x3.toNat (Str.ofString "abab").cps.toList).flatten ++ ls.flatten).take 6) from cutS_to _ 6]
    obtain ⟨st8, sm8⟩ := back st7
    exact k _ _ st8 sm8 ⟨by rw [List.length_take]; omega, (lr.app lf).take 6⟩
/-- a value: a number or a word -/
inductive Vl where
  | num (i : Int)
  | wrd (l : List Nat)
  deriving DecidableEq
def Vl.v : Vl → V
  | .num i => .int i
  | .wrd l => .str (S l)
def Vl.dat : Vl → Dat
  | .num i => .int i
  | .wrd l => .str (S l)
theorem Vl.is {H : Hp} : ∀ x : Vl, Is K H x.v x.dat
  | .num i => .int i
  | .wrd l => .str (S l)
theorem Vl.of {H : Hp} {x : Vl} {u : V} (h : Is K H u x.dat) : u = x.v := by
  cases x <;> (cases h; rfl)
/-- a value of its kind: w: words -/
def VlOk (w : Bool) : Vl → Prop
  | .num i => w = false ∧ -9999 ≤ i ∧ i ≤ 9999
  | .wrd l => w = true ∧ Lw l
def kdS (w : Bool) : Str := if w = true then "word" else "number"
def kdV (w : Bool) : V := .str (kdS w)
theorem kd_word {w : Bool} : decide (kdV w = V.str "word") = w := by cases w <;> decide
theorem kd_number {w : Bool} : decide (kdV w = V.str "number") = !w := by cases w <;> decide
abbrev s__law_value : Stmt := top 49
abbrev N__law_value : List Str := ["_law_box", "_law_kind"]
abbrev P__law_value : List Str := ["_law_box", "_law_kind"]
theorem sc__law_value : FnScope N__law_value P__law_value (defScope s__law_value) := ⟨rfl, rfl, rfl, by decide +kernel, rfl, by decide +kernel, by decide +kernel⟩
def spValue (T : List (Addr × Str)) : Sp := fun vs H Q _ => ∃ (b : Addr) (w : Bool) (H0 : Hp) (F0 : Foot) (As : List Thing), vs = [.ref b, kdV w] ∧ St T H0 F0 (boxT b :: As) H ∧
  ∀ H' x, St T H0 F0 (boxT b :: As) H' → SmT H H' → VlOk w x → Q x.v H'
theorem ok_value {Ts : List (Addr × Str)} (T : Txt mg) (D0 : Df K mg "_law_value" s__law_value P__law_value) (G__law_take : Fn P w K mg base CX0 1 "_law_take" P__law_take (spDraw Ts)) (G__law_word : Fn P w K mg base CX0 2 "_law_word" P__law_word (spWord Ts)) : Fn P w K mg base CX0 3 "_law_value" P__law_value (spValue Ts) := by
  refine D0.ok sc__law_value (fun vs H Q E h => ?_) (fun f cdv A outer s H vs Q E hr h => ?_)
  · obtain ⟨b, w, H0, F0, As, rfl, _⟩ := h
    rfl
  · obtain ⟨b, w, H0', F0', As', rfl, stx, k⟩ := h
    have nd := sc__law_value.nd
    refine ⟨_, (pss_cons (ps_if (pt_cmpR op_eq (pv 1) pe_str (nomark _))
  (pss_one (ps_ret (pe_c G__law_word (hr.mono (by decide)) pass0 (pa_cons (pv 0) pa_nil))))
  pss_nil)
  (pss_one (ps_ret (pe_ix ix_list (pe_lst (pa_cons (pe_c G__law_take (hr.mono (by decide)) pass0 (pa_cons (pv 0) (pa_cons pe_int pa_nil))) (pa_cons (pe_op op_sub (pe_c G__law_take (hr.mono (by decide)) pass0 (pa_cons (pv 0) (pa_cons pe_int pa_nil))) pe_int) (pa_cons (pe_op op_sub (pe_c G__law_take (hr.mono (by decide)) pass0 (pa_cons (pv 0) (pa_cons pe_int pa_nil))) pe_int) pa_nil)))) (pe_c G__law_take (hr.mono (by decide)) pass0 (pa_cons (pv 0) (pa_cons pe_int pa_nil))) (fun _ _ => rfl))))), ?_⟩
    obtain ⟨F0, hF, back⟩ := stx.step (Cs := [boxT b]) (Ds := As') (.refl _)
    have st : St Ts H F0 [boxT b] H := .start hF stx.tabs
    refine ⟨_, rfl, (by cases w <;> rfl), _, rfl, ?_⟩
    refine ite2 (fun c => ?_) (fun c => ?_)
    · have c' : w = true := kd_word.symm.trans c
      refine ⟨_, rfl, b, _, _, _, rfl, st, fun H1 l st1 _ hl => ?_⟩
      obtain ⟨st2, sm⟩ := back st1
      exact k _ (.wrd l) st2 sm ⟨c', hl⟩
    · have c' : w = false := by
        have := kd_word (w := w)
        cases w
        · rfl
        · exact absurd this c
      refine ⟨_, rfl, b, 5, rfl, _, _, _, st, by decide, by decide, fun H1 x1 st1 _ x10 x11 => ?_⟩
      refine ⟨_, rfl, b, 60, rfl, _, _, _, st1, by decide, by decide, fun H2 x2 st2 _ x20 x21 => ⟨_, _, rfl, rfl, ?_⟩⟩
      refine ⟨_, rfl, b, 19999, rfl, _, _, _, st2, by decide, by decide, fun H3 x3 st3 _ x30 x31 => ⟨_, _, rfl, rfl, (by show 3 ≤ sizeLine; decide), fun q nq => ?_⟩⟩
      have st4 := st3.new2 (xs := [x1, x2 - 30, x3 - 9999].map V.int) nq
      refine ⟨_, rfl, b, 3, rfl, _, _, _, st4, by decide, by decide, fun H5 x4 st5 _ x40 x41 => ?_⟩
      obtain ⟨y, hy, ya⟩ := pickZ (zs := [x1, x2 - 30, x3 - 9999]) x40 x41
      refine ⟨q, _, x4, _, rfl, rfl, SqL.of st5.lst2, ya, ?_⟩
      obtain ⟨st6, sm⟩ := back st5.del2
      refine k _ (.num y) st6 sm ⟨c', ?_⟩
      simp only [List.mem_cons, List.not_mem_nil, or_false] at hy
      omega
abbrev s__law_kinds : Stmt := top 47
abbrev N__law_kinds : List Str := ["_law_box", "_law_k"]
abbrev P__law_kinds : List Str := ["_law_box"]
theorem sc__law_kinds : FnScope N__law_kinds P__law_kinds (defScope s__law_kinds) := ⟨rfl, rfl, rfl, by decide +kernel, rfl, by decide +kernel, by decide +kernel⟩
def spKinds (K : PySem.W.Frag) (T : List (Addr × Str)) : Sp := fun vs H Q _ => ∃ (b : Addr) (H0 : Hp) (F0 : Foot) (As : List Thing), vs = [.ref b] ∧ St T H0 F0 (boxT b :: As) H ∧
  ∀ H' p (ks : List Bool), St T H0 F0 (boxT b :: As) H' → SmT H H' → SqT K H' p (ks.map kdV) → 1 ≤ ks.length → ks.length ≤ 4 → Q (.ref p) H'
theorem ok_kinds {Ts : List (Addr × Str)} (T : Txt mg) (D0 : Df K mg "_law_kinds" s__law_kinds P__law_kinds) (G__law_take : Fn P w K mg base CX0 1 "_law_take" P__law_take (spDraw Ts)) : Fn P w K mg base CX0 2 "_law_kinds" P__law_kinds (spKinds K Ts) := by
  refine D0.ok sc__law_kinds (fun vs H Q E h => ?_) (fun f cdv A outer s H vs Q E hr h => ?_)
  · obtain ⟨b, H0, F0, As, rfl, _⟩ := h
    rfl
  · obtain ⟨b, H0', F0', As', rfl, stx, k⟩ := h
    have nd := sc__law_kinds.nd
    refine ⟨_, (pss_one (ps_ret (pe_callTy call_tuple_of (by rfl) T.b_tuple (by decide +kernel) (pa_cons (pe_lc (own := [("_law_k", 1)]) (g := gName 1) (by rfl) nd  (pi_range1 (by rfl) T.b_range (pa_cons (pe_op op_add pe_int (pe_c G__law_take (hr.mono (by decide)) pass0 (pa_cons (pv 0) (pa_cons pe_int pa_nil)))) pa_nil)) (blkOk_by (own := [("_law_k", 1)]) (N := N__law_kinds) (sc := defScope s__law_kinds) (by decide +kernel)) (fun _ _ _ _ _ => pg_name (i := 1) nd rfl (Or.inl rfl)) (fun _ _ _ _ _ => pts_nil) (fun _ _ _ _ _ => (pe_ix (ix_listK' (K := K) rfl) (pe_lst (pa_cons pe_str (pa_cons pe_str pa_nil))) (pe_c G__law_take (hr.mono (by decide)) pass0 (pa_cons (pv 0) (pa_cons pe_int pa_nil))) (fun _ _ => rfl)))) pa_nil)))), ?_⟩
    obtain ⟨F0, hF, back⟩ := stx.step (Cs := [boxT b]) (Ds := As') (.refl _)
    have st : St Ts H F0 [boxT b] H := .start hF stx.tabs
    refine ⟨_, rfl, b, 4, rfl, _, _, _, st, by decide, by decide, fun H1 x1 st1 _ x10 x11 => ⟨_, _, rfl, rfl, _, rfl, by omega, by omega, fun pk npk => ?_⟩⟩
    refine lc_all (walk_range (lo := 0)) (fun m H' => ∃ ks : List Bool, St Ts H F0 (boxT b :: [lstT pk (ks.map kdV)]) H' ∧ ks.length = m) ⟨[], st1.new2 npk, rfl⟩ (fun _ _ _ _ => True.intro) ?_ ?_
    · rintro m x H6 H6' hm ⟨ks, st6, hlen⟩ ⟨rfl, rfl⟩
      refine ⟨(by show 2 ≤ sizeLine; decide), fun q nq => ?_⟩
      have st7 := st6.new2 (xs := [V.str "number", .str "word"]) nq
      refine ⟨_, rfl, b, 2, rfl, _, _, _, st7, by decide, by decide, fun H8 v st8 _ v0 v1 => ?_⟩
      obtain ⟨w, hw⟩ : ∃ w, atI [V.str "number", .str "word"] v = some (kdV w) := by
        rcases (show v = 0 ∨ v = 1 by omega) with rfl | rfl
        · exact ⟨false, at_of (z := 0) (j := 0) rfl rfl⟩
        · exact ⟨true, at_of (z := 1) (j := 1) rfl rfl⟩
      have st9 := st8.del2
      refine ⟨q, _, v, _, rfl, rfl, SqL.of st8.lst2, hw, _, st9.lst2, ?_, ks ++ [w], ?_, ?_⟩
      · rw [List.length_map, sizeLine_eq]
        omega
      · have := st9.put2 (ys := (ks ++ [w]).map kdV)
        rw [List.map_append] at this ⊢
        exact this
      · rw [List.length_append, hlen]
        rfl
    · rintro H6 ⟨ks, st6, hlen⟩
      refine ⟨pk, _, rfl, .inl ⟨SqL.of st6.lst2, fun l nl => ?_⟩⟩
      obtain ⟨st7, sm⟩ := back (st6.del2.same (Same.upd (o := .tup (ks.map kdV)) nl))
      exact k _ l ks st7 sm (SqT.of upd_same) (by omega) (by omega)
end
end K3

set_option Elab.async false
set_option linter.all false
set_option maxRecDepth 100000
set_option maxHeartbeats 4000000
/-! KV: is a list of data empty -/
namespace K3
open PySem PySem.Spec PyProof.Rows L2
mutual
def Dat.toP : Dat → PyData
  | .non => .none
  | .bl b => .bool b
  | .int i => .int i
  | .str z => .str z
  | .tup ds => .tuple (toPs ds)
def toPs : List Dat → List PyData
  | [] => []
  | d :: ds => d.toP :: toPs ds
end
mutual
theorem toP_plain : ∀ d : Dat, d.toP.plain = true
  | .non => by rw [Dat.toP, PyData.plain]
  | .bl b => by rw [Dat.toP, PyData.plain]
  | .int i => by rw [Dat.toP, PyData.plain]
  | .str z => by rw [Dat.toP, PyData.plain]
  | .tup ds => by
    rw [Dat.toP, PyData.plain]
    exact toPs_plain ds
theorem toPs_plain : ∀ ds : List Dat, PyData.plainAll (toPs ds) = true
  | [] => by rw [toPs, PyData.plainAll]
  | d :: ds => by rw [toPs, PyData.plainAll, toP_plain d, toPs_plain ds]; rfl
end
theorem dpAll_at {K : PySem.W.Frag} {H : Hp} : ∀ {ds : List Dat} {xs : List V}, xs.length = ds.length → (∀ (i : Nat) (x : V) (d : Dat), xs[i]? = some x → ds[i]? = some d → Dp K H x d.toP) → DpAll K H xs (toPs ds)
  | [], [], _, _ => by
    rw [toPs]
    exact .nil
  | [], _ :: _, l, _ => by cases l
  | _ :: _, [], l, _ => by cases l
  | d :: ds, x :: xs, l, e => by
    rw [toPs]
    exact .cons (e 0 x d rfl rfl) (dpAll_at (by simpa using l) fun i x d a b => e (i + 1) x d a b)
theorem Is.dp {K : PySem.W.Frag} {H : Hp} {v : V} {d : Dat} (h : Is K H v d) : Dp K H v d.toP := by
  induction h with
  | non =>
    rw [Dat.toP]
    exact .non
  | bl b =>
    rw [Dat.toP]
    exact .bl b
  | int i =>
    rw [Dat.toP]
    exact .int i
  | str z =>
    rw [Dat.toP]
    exact .str z
  | tup h l _ ih =>
    rw [Dat.toP]
    exact .tup h (dpAll_at l ih)
/-- is the list empty? -/
def rEqNil (K : PySem.W.Frag) : R2 := fun x y H Q => ∃ (a b : Addr) (xs : List V) (ds : List Dat), x = .ref a ∧ y = .ref b ∧ SqL K H a xs ∧ Iss K H xs ds ∧ SqL K H b [] ∧ Q (.bl (decide (xs = []))) H
theorem op_eqNil {X : Cx} (hu : X.A.units + 64 < cLine) : OpR X (compareOp .Eq) (rEqNil X.K) := by
  intro pins s σ H x y v u Q I rx ry h
  obtain ⟨a, b, xs, ds, rfl, rfl, h1, is, h2, q⟩ := h
  obtain ⟨as, r1⟩ := Dp.reads I _ _ v (.lst h1 (dpAll_at is.1 fun i x d a b => (is.2 i x d a b).dp)) rx
  obtain ⟨bs, r2⟩ := Dp.reads I _ _ u (.lst h2 .nil) ry
  have d1 : (PyData.list []).depth ≤ 2 := by decide
  refine PySem.SeqAt.eq_plain r1 r2 (by rw [PyData.plain]; exact toPs_plain ds) rfl (by omega) ⟨.bl _, H, I, rfl, ?_⟩
  have e : PyData.eqv (.list (toPs ds)) (.list []) = decide (xs = []) := by
    rw [PyData.eqv]
    have l := is.1
    match xs, ds, l with
    | [], [], _ => rfl
    | x :: xs, d :: ds, _ =>
      rw [toPs]
      rfl
  rw [e]
  exact q
def rNeNil (K : PySem.W.Frag) : R2 := fun x y H Q => ∃ (a b : Addr) (xs : List V) (ds : List Dat), x = .ref a ∧ y = .ref b ∧ SqL K H a xs ∧ Iss K H xs ds ∧ SqL K H b [] ∧ Q (.bl (!decide (xs = []))) H
theorem op_neNil {X : Cx} (hu : X.A.units + 64 < cLine) : OpR X (compareOp .NotEq) (rNeNil X.K) := by
  intro pins s σ H x y v u Q I rx ry h
  obtain ⟨a, b, xs, ds, rfl, rfl, h1, is, h2, q⟩ := h
  obtain ⟨as, r1⟩ := Dp.reads I _ _ v (.lst h1 (dpAll_at is.1 fun i x d a b => (is.2 i x d a b).dp)) rx
  obtain ⟨bs, r2⟩ := Dp.reads I _ _ u (.lst h2 .nil) ry
  have d1 : (PyData.list []).depth ≤ 2 := by decide
  refine PySem.SeqAt.ne_plain r1 r2 (by rw [PyData.plain]; exact toPs_plain ds) rfl (by omega) ⟨.bl _, H, I, rfl, ?_⟩
  have e : PyData.eqv (.list (toPs ds)) (.list []) = decide (xs = []) := by
    rw [PyData.eqv]
    have l := is.1
    match xs, ds, l with
    | [], [], _ => rfl
    | x :: xs, d :: ds, _ =>
      rw [toPs]
      rfl
  rw [e]
  exact q
end K3

set_option Elab.async false
set_option linter.all false
set_option maxRecDepth 100000
set_option maxHeartbeats 4000000
/-! KR: the law's rows, drawn -/
namespace K3
open PySem PySem.Spec PyProof.Rows L2 SX
section
variable {P : Program} {w : World} {K : PySem.W.Frag} {mg : Str → Option Value} {base : Heap}
abbrev s__law_rows : Stmt := top 50
abbrev N__law_rows : List Str := ["_law_box", "_law_kinds_here", "_law_most", "_law_found", "_law_often", "_law_turn", "_law_row", "_law_k", "_law_kind"]
abbrev P__law_rows : List Str := ["_law_box", "_law_kinds_here", "_law_most"]
theorem sc__law_rows : FnScope N__law_rows P__law_rows (defScope s__law_rows) := ⟨rfl, rfl, rfl, by decide +kernel, rfl, by decide +kernel, by decide +kernel⟩
def rowD (r : List Vl) : Dat := .tup (r.map Vl.dat)
/-- a row of these kinds -/
def RowOk (ks : List Bool) (r : List Vl) : Prop := r.length = ks.length ∧ ∀ (i : Nat) (w : Bool) (x : Vl), ks[i]? = some w → r[i]? = some x → VlOk w x
theorem RowOk.set {ks : List Bool} {r : List Vl} (h : RowOk ks r) {i : Nat} {w : Bool} {x : Vl} (hw : ks[i]? = some w) (hx : VlOk w x) : RowOk ks (r.set i x) := by
  refine ⟨by rw [List.length_set]; exact h.1, fun j w' y hw' hy => ?_⟩
  rw [List.getElem?_set] at hy
  by_cases c : i = j
  · subst c
    rw [hw] at hw'
    cases hw'
    rw [if_pos rfl] at hy
    split at hy
    · cases hy
      exact hx
    · cases hy
  · rw [if_neg c] at hy
    exact h.2 j w' y hw' hy
theorem iss_row {H : Hp} {xs : List V} {r : List Vl} (h : Iss K H xs (r.map Vl.dat)) : xs = r.map Vl.v := by
  refine List.ext_getElem? fun i => ?_
  rw [List.getElem?_map]
  cases e : r[i]? with
  | none =>
    have : xs.length ≤ i := by
      have := List.getElem?_eq_none_iff.mp e
      have l := h.1
      rw [List.length_map] at l
      omega
    rw [List.getElem?_eq_none this]
    rfl
  | some x =>
    obtain ⟨u, hu, iu⟩ := h.to (show (r.map Vl.dat)[i]? = some x.dat by rw [List.getElem?_map, e]; rfl)
    rw [hu, Vl.of iu]
    rfl
theorem iss_of {H : Hp} (r : List Vl) : Iss K H (r.map Vl.v) (r.map Vl.dat) := by
  induction r with
  | nil => exact .nil
  | cons x r ih => exact .cons x.is ih
theorem RowOk.snoc {ks : List Bool} {r : List Vl} {w : Bool} {x : Vl} (h : RowOk ks r) (hx : VlOk w x) : RowOk (ks ++ [w]) (r ++ [x]) := by
  refine ⟨by rw [List.length_append, List.length_append, h.1]; rfl, fun i w' y hw hy => ?_⟩
  by_cases c : i < ks.length
  · rw [List.getElem?_append_left c] at hw
    rw [List.getElem?_append_left (by rw [h.1]; exact c)] at hy
    exact h.2 i w' y hw hy
  · rw [List.getElem?_append_right (by omega)] at hw
    rw [List.getElem?_append_right (by rw [h.1]; omega), h.1] at hy
    cases e : i - ks.length with
    | zero =>
      rw [e] at hw hy
      cases hw
      cases hy
      exact hx
    | succ n =>
      rw [e] at hw
      cases hw
theorem last_row {H : Hp} {us : List V} {rows : List (List Vl)} (h : Iss K H us (rows.map rowD)) (ne : us ≠ []) : ∃ us0 t rl, us = us0 ++ [.ref t] ∧ SqT K H t (rl.map Vl.v) ∧ rl ∈ rows := by
  have l := h.1
  rw [List.length_map] at l
  have ne2 : rows ≠ [] := fun z => ne (List.eq_nil_of_length_eq_zero (by rw [l, z]; rfl))
  obtain ⟨us0, v, rfl⟩ : ∃ us0 v, us = us0 ++ [v] := ⟨us.dropLast, us.getLast ne, (List.dropLast_concat_getLast ne).symm⟩
  obtain ⟨rows0, rl, rfl⟩ : ∃ rows0 rl, rows = rows0 ++ [rl] := ⟨rows.dropLast, rows.getLast ne2, (List.dropLast_concat_getLast ne2).symm⟩
  rw [List.length_append, List.length_append] at l
  have l0 : us0.length = rows0.length := by
    have : us0.length + 1 = rows0.length + 1 := l
    omega
  have iv : Is K H v (rowD rl) := h.2 us0.length v _ (by rw [List.getElem?_append_right (Nat.le_refl _), Nat.sub_self]; rfl) (by
    rw [List.map_append, List.getElem?_append_right (by rw [List.length_map]; omega), List.length_map, l0, Nat.sub_self]
    rfl)
  obtain ⟨t, xs, rfl, ht, ixs⟩ := is_tup iv
  rw [iss_row ixs] at ht
  exact ⟨us0, t, rl, rfl, ht, List.mem_append.mpr (.inr List.mem_cons_self)⟩
theorem RowOk.cell {ks : List Bool} {r : List Vl} (h : RowOk ks r) {i : Nat} {w : Bool} (hw : ks[i]? = some w) : ∃ y, r[i]? = some y ∧ VlOk w y := by
  have hi := (List.getElem?_eq_some_iff.mp hw).1
  have e : r[i]? = some (r[i]'(by rw [h.1]; exact hi)) := List.getElem?_eq_getElem _
  exact ⟨_, e, h.2 i w _ hw e⟩
def spRows (K : PySem.W.Frag) (T : List (Addr × Str)) : Sp := fun vs H Q _ => ∃ (b kp : Addr) (most : Int) (ks : List Bool) (H0 : Hp) (F0 : Foot) (As : List Thing), vs = [.ref b, .ref kp, .int most] ∧ St T H0 F0 (boxT b :: As) H ∧ SqT K H kp (ks.map kdV) ∧ ks.length ≤ 4 ∧ 0 < most ∧ most ≤ 1000 ∧
  ∀ H' p (rows : List (List Vl)), St T H0 F0 (boxT b :: datT K p (rows.map rowD) :: As) H' → SmT H H' → (∀ r ∈ rows, RowOk ks r) → 1 ≤ rows.length → (rows.length : Int) ≤ most → Q (.ref p) H'
theorem ok_rows {Ts : List (Addr × Str)} (T : Txt mg) (D0 : Df K mg "_law_rows" s__law_rows P__law_rows) (G__law_take : Fn P w K mg base CX0 1 "_law_take" P__law_take (spDraw Ts)) (G__law_value : Fn P w K mg base CX0 3 "_law_value" P__law_value (spValue Ts)) : Fn P w K mg base CX0 4 "_law_rows" P__law_rows (spRows K Ts) := by
  refine D0.ok sc__law_rows (fun vs H Q E h => ?_) (fun f cdv A outer s H vs Q E hr h => ?_)
  · obtain ⟨b, kp, most, ks, H0, F0, As, rfl, _⟩ := h
    rfl
  · obtain ⟨b, kp, most, ks, H0', F0', As', rfl, stx, hkp, k4, m0, m1, k⟩ := h
    have nd := sc__law_rows.nd
    refine ⟨_, (pss_cons (ps_set (i := 3) nd rfl (by first | exact Or.inl rfl | exact Or.inr rfl) (pe_lst pa_nil))
  (pss_cons (ps_set (i := 4) nd rfl (by first | exact Or.inl rfl | exact Or.inr rfl) (pe_op op_add pe_int (pe_c G__law_take (hr.mono (by decide)) pass0 (pa_cons (pv 0) (pa_cons pe_int pa_nil)))))
  (pss_cons (ps_for PassesOwn.never rfl (pi_range1 (by rfl) T.b_range (pa_cons (pe_op op_add pe_int (pe_c G__law_take (hr.mono (by decide)) pass0 (pa_cons (pv 0) (pa_cons (pv 2) pa_nil)))) pa_nil)) (pg_name (i := 5) nd rfl (by first | exact Or.inl rfl | exact Or.inr rfl))
  (pss_cons (ps_setLc (i := 6) (own := [("_law_kind", 8)]) (g := gName 8) (by rfl) nd rfl rfl (sw_true rfl rfl rfl (by decide +kernel)) (pi_tup (pv 1)) (blkOk_by (own := [("_law_kind", 8)]) (N := N__law_rows) (sc := defScope s__law_rows) (by decide +kernel)) (fun _ _ _ _ _ => pg_name (i := 8) nd rfl (Or.inl rfl)) (fun _ _ _ _ _ => pts_nil) (fun _ _ _ _ _ => (pe_c G__law_value (hr.mono (by decide)) pass0 (pa_cons (pv 0) (pa_cons (pv 8) pa_nil)))))
  (pss_cons (ps_for PassesOwn.never rfl (pi_range1 (by rfl) T.b_range (pa_cons (pe_callB call_len_seq (by rfl) T.b_len (by decide +kernel) (pa_cons (pv 1) pa_nil)) pa_nil)) (pg_name (i := 7) nd rfl (by first | exact Or.inl rfl | exact Or.inr rfl))
  (Evl.pss_cut (ps_if (PW.pt (pw_and (pt_cmpR (op_neNil hr.units) (pv 3) (pe_lst pa_nil) (nomark _)) (pw_and1 (pt_cmpR op_gt (pe_c G__law_take (hr.mono (by decide)) pass0 (pa_cons (pv 0) (pa_cons (pe_op op_add (pv 4) pe_int) pa_nil))) pe_int (nomark _)))))
  (pss_one (ps_asg (pe_ix ix_tup (pe_ix ix_list (pv 3) (pe_un un_neg pe_int) (fun _ _ => rfl)) (pv 7) (fun _ _ => rfl)) (pg_sub (pv 6) (pv 7) set_list)))
  pss_nil)
  (pss_one (ps_if (PW.pt (pw_and (pt_cmpR op_eq (pe_ix ix_tup (pv 1) (pv 7) (fun _ _ => rfl)) pe_str (nomark _)) (pw_and (pt_cmpR (op_neNil hr.units) (pv 3) (pe_lst pa_nil) (nomark _)) (pw_and1 (pt_cmpR op_eq (pe_c G__law_take (hr.mono (by decide)) pass0 (pa_cons (pv 0) (pa_cons pe_int pa_nil))) pe_int (nomark _))))))
  (pss_one (ps_asg (pe_callB (call_max2 rfl) (by rfl) T.b_max (by decide +kernel) (pa_cons (pe_un un_neg pe_int) (pa_cons (pe_callB (call_min2 rfl) (by rfl) T.b_min (by decide +kernel) (pa_cons pe_int (pa_cons (pe_op op_add (pe_op op_add (pe_ix ix_tup (pe_ix ix_list (pv 3) (pe_un un_neg pe_int) (fun _ _ => rfl)) (pv 7) (fun _ _ => rfl)) pe_int) (pe_c G__law_take (hr.mono (by decide)) pass0 (pa_cons (pv 0) (pa_cons pe_int pa_nil)))) pa_nil))) pa_nil))) (pg_sub (pv 6) (pv 7) set_list)))
  pss_nil))))
  (pss_one (ps_expr (pe_bm PySem.F.plainAttrs_list PySem.F.slot_list_append PySem.F.type_list_append mt_append (pv 3) (pa_cons (pe_callTy call_tuple_of (by rfl) T.b_tuple (by decide +kernel) (pa_cons (pv 6) pa_nil)) pa_nil)))))))
  (pss_one (ps_ret (pv 3)))))), ?_⟩
    obtain ⟨F0, hF, back⟩ := stx.step (Cs := [boxT b]) (Ds := As') (.refl _)
    have st : St Ts H F0 [boxT b] H := .start hF stx.tabs
    have mu0 := Holds.mut hF
    have hk : ∀ {As H'}, St Ts H F0 As H' → SqT K H' kp (ks.map kdV) := fun h => (h.smT mu0).seqT hkp
    refine ⟨Nat.zero_le _, fun fd nfd => ?_⟩
    have st1 := (st.new2 (xs := []) nfd)
    refine ⟨_, rfl, b, 4, rfl, _, _, _, st1, by decide, by decide, fun H2 x1 st2 _ x10 x11 => ⟨_, _, rfl, rfl, ?_⟩⟩
    refine ⟨_, rfl, _, rfl, b, most, rfl, _, _, _, st2, m0, by omega, fun H3 n st3 _ n0 n1 => ⟨_, _, rfl, rfl, _, rfl, by omega, by omega, ?_⟩⟩
    refine for_it (walk_range (lo := 0)) (fun i σ H' => (∃ v5 v6 v7 v8, σ = [some (.ref b), some (.ref kp), some (.int most), some (.ref fd), some (.int (1 + x1)), v5, v6, v7, v8]) ∧ ∃ rows : List (List Vl), St Ts H F0 [boxT b, datT K fd (rows.map rowD)] H' ∧ (∀ r ∈ rows, RowOk ks r) ∧ rows.length = i) ⟨⟨none, none, none, none, rfl⟩, [], (st3.swap.asDat .nil).swap, (fun r hr => nomatch hr), rfl⟩ (fun _ _ _ _ _ => True.intro) ?_ ?_
    · rintro i x σ H4 H4' hi ⟨⟨v5, v6, v7, v8, rfl⟩, rows, st4, hrows, hlen⟩ ⟨rfl, rfl⟩
      refine ⟨_, rfl, kp, rfl, ⟨_, hk st4⟩, fun rw nrw => ?_⟩
      refine lc_all (walk_tup (xs := ks.map kdV)) (fun m H' => ∃ r : List Vl, St Ts H F0 [boxT b, lstT rw (r.map Vl.v), datT K fd (rows.map rowD)] H' ∧ RowOk (ks.take m) r) ⟨[], st4.new2 nrw, by rw [List.take_zero]; exact ⟨rfl, fun i w x h => by cases h⟩⟩ (fun _ _ _ ⟨_, h, _⟩ => hk h) ?_ ?_
      · rintro m x H5 H5' hm ⟨r, st5, hr⟩ ⟨rfl, e⟩
        obtain ⟨w, hw, rfl⟩ := map_at e
        rw [List.length_map] at hm
        refine ⟨_, rfl, _, rfl, b, w, _, _, _, rfl, st5, fun H6 y st6 _ hy => ⟨_, st6.lst2, ?_, r ++ [y], ?_, ?_⟩⟩
        · have := hr.1
          rw [List.length_take] at this
          rw [List.length_map, sizeLine_eq]
          omega
        · have := st6.put2 (ys := (r ++ [y]).map Vl.v)
          rw [List.map_append] at this ⊢
          exact this
        · rw [List.take_succ, hw]
          exact hr.snoc hy
      · rintro H5 ⟨r, st5, hr⟩
        rw [List.length_map, List.take_length] at hr
        refine ⟨_, rfl, kp, _, rfl, .inr (hk st5), _, rfl, ?_, ?_, for_it (walk_range (lo := 0)) (fun j σ H' => (∃ v7 v8, σ = [some (.ref b), some (.ref kp), some (.int most), some (.ref fd), some (.int (1 + x1)), some (.int (0 + (i : Int))), some (.ref rw), v7, v8]) ∧ ∃ r : List Vl, St Ts H F0 [boxT b, lstT rw (r.map Vl.v), datT K fd (rows.map rowD)] H' ∧ RowOk ks r) ⟨⟨_, _, rfl⟩, r, st5, hr⟩ (fun _ _ _ _ _ => True.intro) ?_ ?_⟩
        · rw [List.length_map]
          omega
        · rw [List.length_map]
          omega
        · rintro j x σ H6 H6' hj ⟨⟨v7, v8, rfl⟩, r, st6, hr⟩ ⟨rfl, rfl⟩
          rw [List.length_map, Int.toNat_natCast] at hj
          have e0 : (0 : Int) + (j : Int) = (j : Int) := by omega
          obtain ⟨w, hw⟩ : ∃ w, ks[j]? = some w := ⟨_, List.getElem?_eq_getElem hj⟩
          have hix : ∀ {r' : List Vl}, RowOk ks r' → ixN (r'.map Vl.v).length (0 + (j : Int)) = some j := fun h => by
            rw [e0]
            refine Evl.ixN_nat ?_
            rw [List.length_map, h.1]
            exact hj
          refine ⟨fun σ H7 => (∃ v8, σ = [some (.ref b), some (.ref kp), some (.int most), some (.ref fd), some (.int (1 + x1)), some (.int (0 + (i : Int))), some (.ref rw), some (.int (0 + (j : Int))), v8]) ∧ ∃ r : List Vl, St Ts H F0 [boxT b, lstT rw (r.map Vl.v), datT K fd (rows.map rowD)] H7 ∧ RowOk ks r, ?_, ?_⟩
          · obtain ⟨us, hus, ius⟩ := (st6.order [2, 0, 1] rfl : St Ts H F0 [datT K fd (rows.map rowD), boxT b, lstT rw (r.map Vl.v)] _).dat
            refine ⟨_, rfl, Nat.zero_le _, fun q nq => ⟨fd, q, us, _, rfl, rfl, SqL.of (Same.upd nq _ _ hus), ius.same (Same.upd nq), SqL.of upd_same, _, rfl, ?_⟩⟩
            have st7 := st6.same (Same.upd (o := .lst []) nq)
            refine ite2 (fun c => ?_) (fun c => ?_)
            rotate_left
            · exact ite2 (fun z => Bool.noConfusion z) (fun _ => ⟨⟨_, rfl⟩, r, st7, hr⟩)
            have ne : us ≠ [] := fun z => by
              rw [z] at c
              cases c
            refine ⟨_, rfl, _, rfl, _, _, rfl, rfl, b, _, rfl, _, _, _, st7, by omega, by omega, fun H8 v st8 _ v0 v1 => ⟨_, _, rfl, rfl, _, rfl, ?_⟩⟩
            refine ite2 (fun c2 => ?_) (fun c2 => ?_)
            rotate_left
            · exact ⟨⟨_, rfl⟩, r, st8, hr⟩
            obtain ⟨us8, hus8, ius8⟩ := (st8.order [2, 0, 1] rfl : St Ts H F0 [datT K fd (rows.map rowD), boxT b, lstT rw (r.map Vl.v)] H8).dat
            have ne8 : us8 ≠ [] := fun z => ne (List.eq_nil_of_length_eq_zero (by rw [ius.1, ← ius8.1, z]; rfl))
            obtain ⟨us0, t, rl, rfl, ht, hrl⟩ := last_row ius8 ne8
            obtain ⟨y, hy, oky⟩ := (hrows rl hrl).cell hw
            refine ⟨_, rfl, _, rfl, fd, _, -1, _, rfl, rfl, SqL.of hus8, atI_last _ _, _, rfl, t, _, _, y.v, rfl, rfl, ht, at_of (j := j) e0 (by rw [List.getElem?_map, hy]; rfl), _, rfl, _, rfl, rw, _, _, j, rfl, rfl, st8.lst2, hix hr, ⟨_, rfl⟩, r.set j y, ?_, hr.set hw oky⟩
            rw [← List.map_set]
            exact st8.put2
          · rintro σ H7 ⟨⟨v8', rfl⟩, r, st7, hr⟩
            refine ⟨_, rfl, _, rfl, kp, _, _, kdV w, rfl, rfl, hk st7, at_of (j := j) e0 (by rw [List.getElem?_map, hw]; rfl), (by cases w <;> rfl), _, rfl, ?_⟩
            refine ite2 (fun c => ?_) (fun c => ?_)
            rotate_left
            · exact ite2 (fun z => Bool.noConfusion z) (fun _ => ⟨⟨_, _, rfl⟩, r, st7, hr⟩)
            have wf : w = false := by
              have c : decide (kdV w = V.str "number") = true := c
              rw [kd_number] at c
              simpa using c
            obtain ⟨us, hus, ius⟩ := (st7.order [2, 0, 1] rfl : St Ts H F0 [datT K fd (rows.map rowD), boxT b, lstT rw (r.map Vl.v)] H7).dat
            refine ⟨_, rfl, Nat.zero_le _, fun q nq => ⟨fd, q, us, _, rfl, rfl, SqL.of (Same.upd nq _ _ hus), ius.same (Same.upd nq), SqL.of upd_same, _, rfl, ?_⟩⟩
            have st8 := st7.same (Same.upd (o := .lst []) nq)
            refine ite2 (fun c => ?_) (fun c => ?_)
            rotate_left
            · exact ite2 (fun z => Bool.noConfusion z) (fun _ => ⟨⟨_, _, rfl⟩, r, st8, hr⟩)
            have ne : us ≠ [] := fun z => by
              rw [z] at c
              cases c
            refine ⟨_, rfl, b, 4, rfl, _, _, _, st8, by decide, by decide, fun H9 v st9 _ v0 v1 => ⟨rfl, _, rfl, ?_⟩⟩
            refine ite2 (fun c2 => ?_) (fun c2 => ?_)
            rotate_left
            · exact ⟨⟨_, _, rfl⟩, r, st9, hr⟩
            obtain ⟨us8, hus8, ius8⟩ := (st9.order [2, 0, 1] rfl : St Ts H F0 [datT K fd (rows.map rowD), boxT b, lstT rw (r.map Vl.v)] H9).dat
            have ne8 : us8 ≠ [] := fun z => ne (List.eq_nil_of_length_eq_zero (by rw [ius.1, ← ius8.1, z]; rfl))
            obtain ⟨us0, t, rl, rfl, ht, hrl⟩ := last_row ius8 ne8
            obtain ⟨y, hy, oky⟩ := (hrows rl hrl).cell hw
            subst wf
            obtain ⟨z, rfl, z0, z1⟩ : ∃ z, y = .num z ∧ -9999 ≤ z ∧ z ≤ 9999 := by
              cases y with
              | num z => exact ⟨z, rfl, oky.2⟩
              | wrd l => cases oky.1
            refine ⟨_, rfl, _, rfl, _, rfl, fd, _, -1, _, rfl, rfl, SqL.of hus8, atI_last _ _, _, rfl, t, _, _, (Vl.num z).v, rfl, rfl, ht, at_of (j := j) e0 (by rw [List.getElem?_map, hy]; rfl), _, _, rfl, rfl, ?_⟩
            refine ⟨_, rfl, b, 3, rfl, _, _, _, st9, by decide, by decide, fun H10 v2 st10 _ v20 v21 => ⟨_, _, rfl, rfl, ?_⟩⟩
            refine ⟨_, _, rfl, _, _, rfl, _, rfl, _, rfl, rw, _, _, j, rfl, rfl, st10.lst2, hix hr, ⟨_, _, rfl⟩, r.set j (.num (if (if z + 1 + v2 < 9999 then z + 1 + v2 else 9999) > -9999 then (if z + 1 + v2 < 9999 then z + 1 + v2 else 9999) else -9999)), ?_, hr.set hw ⟨rfl, ?_, ?_⟩⟩
            · rw [List.map_set]
              exact st10.put2
            · split <;> omega
            · split <;> split <;> omega
        · rintro σ H6 ⟨⟨v7, v8, rfl⟩, r, st6, hr⟩
          obtain ⟨us, hus, ius⟩ := (st6.order [2, 0, 1] rfl : St Ts H F0 [datT K fd (rows.map rowD), boxT b, lstT rw (r.map Vl.v)] H6).dat
          have lu := ius.1
          rw [List.length_map] at lu
          refine ⟨_, rfl, .inl ⟨rfl, _, SqL.of hus⟩, _, rfl, rw, _, rfl, .inl ⟨SqL.of st6.lst2, fun l nl => ⟨fd, us, .ref l, rfl, rfl, Same.upd nl _ _ hus, ?_, ⟨_, _, _, _, rfl⟩, rows ++ [r], ?_, fun r' hr' => ?_, ?_⟩⟩⟩
          · have : sizeLine = 16777216 := sizeLine_eq
            omega
          · have st7 := (st6.same (Same.upd (o := .tup (r.map Vl.v)) nl)).del2
            have i7 := (ius.same (Same.upd (o := .tup (r.map Vl.v)) nl)).app (Iss.cons ((iss_of r).made nl) .nil)
            rw [List.map_append]
            exact (st7.swap.putDat i7).1.swap
          · rcases List.mem_append.mp hr' with hr' | hr'
            · exact hrows r' hr'
            · rw [List.mem_singleton.mp hr']
              exact hr
          · rw [List.length_append, hlen]
            rfl
    · rintro σ H4 ⟨⟨v5, v6, v7, v8, rfl⟩, rows, st4, hrows, hlen⟩
      obtain ⟨st5, sm⟩ := back st4
      exact ⟨_, rfl, k _ fd rows st5 sm hrows (by omega) (by omega)⟩
end
end K3

set_option Elab.async false
set_option linter.all false
set_option maxRecDepth 100000
set_option maxHeartbeats 4000000
/-! KCd: the law's conditions, drawn -/
namespace K3
open PySem PySem.Spec PyProof.Rows L2 SX
inductive Cond where
  | all
  | is (c : Nat) (x : Vl)
  | less (c : Nat) (x : Vl)
  | within (c : Nat) (x y : Vl)
  | begins (c : Nat) (l : List Nat)
  | not (a : Cond)
  | and (a b : Cond)
  | or (a b : Cond)
def Cond.dat : Cond → Dat
  | .all => .tup [.str "all"]
  | .is c x => .tup [.str "is", .int c, x.dat]
  | .less c x => .tup [.str "less", .int c, x.dat]
  | .within c x y => .tup [.str "within", .int c, x.dat, y.dat]
  | .begins c l => .tup [.str "begins", .int c, .str (S l)]
  | .not a => .tup [.str "not", a.dat]
  | .and a b => .tup [.str "and", a.dat, b.dat]
  | .or a b => .tup [.str "or", a.dat, b.dat]
def CondOk (ks : List Bool) : Cond → Prop
  | .all => True
  | .is c x => ∃ w, ks[c]? = some w ∧ VlOk w x
  | .less c x => ∃ w, ks[c]? = some w ∧ VlOk w x
  | .within c x y => ∃ w, ks[c]? = some w ∧ VlOk w x ∧ VlOk w y
  | .begins c l => ks[c]? = some true ∧ Lw l
  | .not a => CondOk ks a
  | .and a b => CondOk ks a ∧ CondOk ks b
  | .or a b => CondOk ks a ∧ CondOk ks b
def Cond.many : Cond → Nat
  | .not a => 1 + a.many
  | .and a b => 1 + a.many + b.many
  | .or a b => 1 + a.many + b.many
  | _ => 1
def Cond.deep : Cond → Nat
  | .not a => 1 + a.deep
  | .and a b => 1 + max a.deep b.deep
  | .or a b => 1 + max a.deep b.deep
  | _ => 0
/-- a def that promises nothing yet -/
theorem Df.void {P : Program} {w : World} {K : PySem.W.Frag} {mg : Str → Option Value} {base : Heap} {CX : CXT} {x : Str} {st : Stmt} {ps : List Str} {k : Nat} (D : Df K mg x st ps) : Fn P w K mg base CX k x ps (fun _ _ _ _ => False) := by
  obtain ⟨f, fd, F, hm, hb⟩ := D.ex
  exact ⟨f, fd, ⟨fun vs H Q E h => h.elim, fun A outer s H args us vs Q E _ _ _ _ h => h.elim⟩, hm, F.kp, hb⟩
section
variable {P : Program} {w : World} {K : PySem.W.Frag} {mg : Str → Option Value} {base : Heap}
abbrev s__law_near : Stmt := top 51
abbrev N__law_near : List Str := ["_law_box", "_law_kinds_here", "_law_rows_here", "_law_column"]
abbrev P__law_near : List Str := ["_law_box", "_law_kinds_here", "_law_rows_here", "_law_column"]
theorem sc__law_near : FnScope N__law_near P__law_near (defScope s__law_near) := ⟨rfl, rfl, rfl, by decide +kernel, rfl, by decide +kernel, by decide +kernel⟩
/-- what _law_near, _law_test .. take: the box, the kinds, some rows -/
def CdIn (K : PySem.W.Frag) (T : List (Addr × Str)) (b kp rp : Addr) (ks : List Bool) (rows : List (List Vl)) (H0 : Hp) (F0 : Foot) (As : List Thing) (H : Hp) : Prop :=
  St T H0 F0 (boxT b :: datT K rp (rows.map rowD) :: As) H ∧ SqT K H kp (ks.map kdV) ∧ 1 ≤ ks.length ∧ ks.length ≤ 4 ∧ (∀ r ∈ rows, RowOk ks r) ∧ rows.length ≤ 20000
def spNear (K : PySem.W.Frag) (T : List (Addr × Str)) : Sp := fun vs H Q _ => ∃ (b kp rp : Addr) (c : Nat) (w : Bool) (ks : List Bool) (rows : List (List Vl)) (H0 : Hp) (F0 : Foot) (As : List Thing), vs = [.ref b, .ref kp, .ref rp, .int c] ∧ CdIn K T b kp rp ks rows H0 F0 As H ∧ ks[c]? = some w ∧
  ∀ H' x, St T H0 F0 (boxT b :: datT K rp (rows.map rowD) :: As) H' → SmT H H' → VlOk w x → Q x.v H'
theorem ok_near {Ts : List (Addr × Str)} (T : Txt mg) (D0 : Df K mg "_law_near" s__law_near P__law_near) (G__law_take : Fn P w K mg base CX0 1 "_law_take" P__law_take (spDraw Ts)) (G__law_value : Fn P w K mg base CX0 3 "_law_value" P__law_value (spValue Ts)) : Fn P w K mg base CX0 4 "_law_near" P__law_near (spNear K Ts) := by
  refine D0.ok sc__law_near (fun vs H Q E h => ?_) (fun f cdv A outer s H vs Q E hr h => ?_)
  · obtain ⟨b, kp, rp, c, w, ks, rows, H0, F0, As, rfl, _⟩ := h
    rfl
  · obtain ⟨b, kp, rp, c, w, ks, rows, H0', F0', As', rfl, ⟨stx, hkp, k1, k4, hrows, few⟩, hw, k⟩ := h
    have nd := sc__law_near.nd
    refine ⟨_, (pss_cons (ps_if (PW.pt (pw_and (pt_cmpR (op_neNil hr.units) (pv 2) (pe_lst pa_nil) (nomark _)) (pw_and1 (pt_cmpR op_gt (pe_c G__law_take (hr.mono (by decide)) pass0 (pa_cons (pv 0) (pa_cons pe_int pa_nil))) pe_int (nomark _)))))
  (pss_one (ps_ret (pe_ix ix_tup (pe_ix ix_list (pv 2) (pe_c G__law_take (hr.mono (by decide)) pass0 (pa_cons (pv 0) (pa_cons (pe_callB call_len_seq (by rfl) T.b_len (by decide +kernel) (pa_cons (pv 2) pa_nil)) pa_nil))) (fun _ _ => rfl)) (pv 3) (fun _ _ => rfl))))
  pss_nil)
  (pss_one (ps_ret (pe_c G__law_value (hr.mono (by decide)) pass0 (pa_cons (pv 0) (pa_cons (pe_ix ix_tup (pv 1) (pv 3) (fun _ _ => rfl)) pa_nil)))))), ?_⟩
    obtain ⟨F0, hF, back⟩ := stx.step (Cs := [boxT b, datT K rp (rows.map rowD)]) (Ds := As') (.refl _)
    have st : St Ts H F0 [boxT b, datT K rp (rows.map rowD)] H := .start hF stx.tabs
    have mu0 := Holds.mut hF
    have hk : ∀ {As H'}, St Ts H F0 As H' → SqT K H' kp (ks.map kdV) := fun h => (h.smT mu0).seqT hkp
    -- a value drawn anew
    have fin : ∀ {H'}, St Ts H F0 [boxT b, datT K rp (rows.map rowD)] H' → tRet (tCall (spValue Ts) [] E0 (tCons (tVar 0) (tCons (tOp (rIxT K) (tVar 1) (tVar 3)) tNil))) { nx := fun _ H' => Q .non H', rt := Q } [some (.ref b), some (.ref kp), some (.ref rp), some (.int c)] H' := fun {H'} st' => by
      refine ⟨_, rfl, _, rfl, _, rfl, kp, _, _, kdV w, rfl, rfl, hk st', at_of (j := c) rfl (by rw [List.getElem?_map, hw]; rfl), b, w, _, _, _, rfl, st', fun H2 x st2 _ hx => ?_⟩
      obtain ⟨st3, sm⟩ := back st2
      exact k _ x st3 sm hx
    obtain ⟨us, hus, ius⟩ := st.swap.dat
    refine ⟨_, rfl, Nat.zero_le _, fun q nq => ⟨rp, q, us, _, rfl, rfl, SqL.of (Same.upd nq _ _ hus), ius.same (Same.upd nq), SqL.of upd_same, _, rfl, ?_⟩⟩
    have st1 := st.same (Same.upd (o := .lst []) nq)
    refine ite2 (fun c1 => ?_) (fun c1 => ?_)
    rotate_left
    · exact ite2 (fun z => Bool.noConfusion z) (fun _ => fin st1)
    refine ⟨_, rfl, b, 4, rfl, _, _, _, st1, by decide, by decide, fun H2 v st2 _ v0 v1 => ⟨_, _, rfl, rfl, _, rfl, ?_⟩⟩
    refine ite2 (fun c2 => ?_) (fun c2 => ?_)
    rotate_left
    · exact fin st2
    have ne : us ≠ [] := fun z => by
      rw [z] at c1
      cases c1
    have lr : 1 ≤ rows.length := by
      have := ius.1
      rw [List.length_map] at this
      rw [← this]
      exact List.length_pos_iff.mpr ne
    obtain ⟨us2, hus2, ius2⟩ := st2.swap.dat
    have l2 := ius2.1
    rw [List.length_map] at l2
    refine ⟨_, rfl, _, rfl, _, rfl, rp, _, rfl, .inl (SqL.of hus2), b, (us2.length : Nat), rfl, _, _, _, st2, by omega, by omega, fun H3 i st3 _ i0 i1 => ?_⟩
    obtain ⟨us3, hus3, ius3⟩ := st3.swap.dat
    have l3 := ius3.1
    rw [List.length_map] at l3
    obtain ⟨n, rfl⟩ := Int.eq_ofNat_of_zero_le i0
    obtain ⟨r, hr'⟩ : ∃ r, rows[n]? = some r := ⟨_, List.getElem?_eq_getElem (by omega)⟩
    obtain ⟨u, hu, iu⟩ := ius3.to (show (rows.map rowD)[n]? = some (rowD r) by rw [List.getElem?_map, hr']; rfl)
    obtain ⟨t, xs, rfl, ht, ixs⟩ := is_tup iu
    rw [iss_row ixs] at ht
    obtain ⟨x, hx, okx⟩ := (hrows r (List.mem_of_getElem? hr')).cell hw
    refine ⟨rp, _, _, _, rfl, rfl, SqL.of hus3, at_of (j := n) rfl hu, _, rfl, t, _, _, x.v, rfl, rfl, ht, at_of (j := c) rfl (by rw [List.getElem?_map, hx]; rfl), ?_⟩
    obtain ⟨st4, sm⟩ := back st3
    exact k _ x st4 sm okx
abbrev s__law_test : Stmt := top 52
abbrev N__law_test : List Str := ["_law_box", "_law_kinds_here", "_law_rows_here", "_law_column", "_law_value_here", "_law_way"]
abbrev P__law_test : List Str := ["_law_box", "_law_kinds_here", "_law_rows_here"]
theorem sc__law_test : FnScope N__law_test P__law_test (defScope s__law_test) := ⟨rfl, rfl, rfl, by decide +kernel, rfl, by decide +kernel, by decide +kernel⟩
def spCond (K : PySem.W.Frag) (T : List (Addr × Str)) (R : Cond → Prop) : Sp := fun vs H Q _ => ∃ (b kp rp : Addr) (ks : List Bool) (rows : List (List Vl)) (H0 : Hp) (F0 : Foot) (As : List Thing), vs = [.ref b, .ref kp, .ref rp] ∧ CdIn K T b kp rp ks rows H0 F0 As H ∧
  ∀ H' v cd, St T H0 F0 (boxT b :: datT K rp (rows.map rowD) :: As) H' → SmT H H' → Is K H' v cd.dat → CondOk ks cd → R cd → Q v H'
theorem ok_test {Ts : List (Addr × Str)} (T : Txt mg) (D0 : Df K mg "_law_test" s__law_test P__law_test) (G__law_take : Fn P w K mg base CX0 1 "_law_take" P__law_take (spDraw Ts)) (G__law_near : Fn P w K mg base CX0 4 "_law_near" P__law_near (spNear K Ts)) : Fn P w K mg base CX0 5 "_law_test" P__law_test (spCond K Ts fun cd => cd.many = 1 ∧ cd.deep = 0) := by
  refine D0.ok sc__law_test (fun vs H Q E h => ?_) (fun f cdv A outer s H vs Q E hr h => ?_)
  · obtain ⟨b, kp, rp, ks, rows, H0, F0, As, rfl, _⟩ := h
    rfl
  · obtain ⟨b, kp, rp, ks, rows, H0', F0', As', rfl, ⟨stx, hkp, k1, k4, hrows, few⟩, k⟩ := h
    have nd := sc__law_test.nd
    refine ⟨_, (pss_cons (ps_set (i := 3) nd rfl (by first | exact Or.inl rfl | exact Or.inr rfl) (pe_c G__law_take (hr.mono (by decide)) pass0 (pa_cons (pv 0) (pa_cons (pe_callB call_len_seq (by rfl) T.b_len (by decide +kernel) (pa_cons (pv 1) pa_nil)) pa_nil))))
  (pss_cons (ps_set (i := 4) nd rfl (by first | exact Or.inl rfl | exact Or.inr rfl) (pe_c G__law_near (hr.mono (by decide)) pass0 (pa_cons (pv 0) (pa_cons (pv 1) (pa_cons (pv 2) (pa_cons (pv 3) pa_nil))))))
  (pss_cons (ps_set (i := 5) nd rfl (by first | exact Or.inl rfl | exact Or.inr rfl) (pe_c G__law_take (hr.mono (by decide)) pass0 (pa_cons (pv 0) (pa_cons pe_int pa_nil))))
  (pss_cons (ps_if (pt_cmpR op_eq (pv 5) pe_int (nomark _))
  (pss_one (ps_ret (pe_tup (pa_cons pe_str pa_nil))))
  pss_nil)
  (Evl.pss_cut (ps_if (PW.pt (pw_and (pt_cmpR op_eq (pv 5) pe_int (nomark _)) (pw_and1 (pt_cmpR op_eq (pe_ix ix_tup (pv 1) (pv 3) (fun _ _ => rfl)) pe_str (nomark _)))))
  (pss_one (ps_ret (pe_tup (pa_cons pe_str (pa_cons (pv 3) (pa_cons (pe_slice sl_str (pv 4) po_none (po_some (pe_c G__law_take (hr.mono (by decide)) pass0 (pa_cons (pv 0) (pa_cons pe_int pa_nil))))) pa_nil))))))
  pss_nil)
  (pss_cons (ps_if (pt_cmpR op_lt (pv 5) pe_int (nomark _))
  (pss_one (ps_ret (pe_tup (pa_cons pe_str (pa_cons (pv 3) (pa_cons (pv 4) pa_nil))))))
  pss_nil)
  (pss_cons (ps_if (pt_cmpR op_lt (pv 5) pe_int (nomark _))
  (pss_one (ps_ret (pe_tup (pa_cons pe_str (pa_cons (pv 3) (pa_cons (pv 4) pa_nil))))))
  pss_nil)
  (pss_one (ps_ret (pe_tup (pa_cons pe_str (pa_cons (pv 3) (pa_cons (pv 4) (pa_cons (pe_c G__law_near (hr.mono (by decide)) pass0 (pa_cons (pv 0) (pa_cons (pv 1) (pa_cons (pv 2) (pa_cons (pv 3) pa_nil))))) pa_nil)))))))))))))), ?_⟩
    obtain ⟨F0, hF, back⟩ := stx.step (Cs := [boxT b, datT K rp (rows.map rowD)]) (Ds := As') (.refl _)
    have st : St Ts H F0 [boxT b, datT K rp (rows.map rowD)] H := .start hF stx.tabs
    have mu0 := Holds.mut hF
    have hk : ∀ {As H'}, St Ts H F0 As H' → SqT K H' kp (ks.map kdV) := fun h => (h.smT mu0).seqT hkp
    -- a new tuple is the answer
    have fin : ∀ {H' l xs} (cd : Cond) (ds : List Dat), St Ts H F0 [boxT b, datT K rp (rows.map rowD)] H' → H' l = none → Iss K H' xs ds → cd.dat = .tup ds → CondOk ks cd → cd.many = 1 → cd.deep = 0 → Q (.ref l) (L2.upd H' l (.tup xs)) := fun {H' l xs} cd ds st' nl i e ok m d => by
      obtain ⟨st2, sm⟩ := back (st'.same (Same.upd (o := .tup xs) nl))
      exact k _ _ cd st2 sm (by rw [e]; exact i.made nl) ok ⟨m, d⟩
    refine ⟨_, rfl, _, rfl, kp, _, rfl, .inr (hk st), b, ((ks.map kdV).length : Nat), rfl, _, _, _, st, (by rw [List.length_map]; omega), (by rw [List.length_map]; omega), fun H2 c st2 _ c0 c1 => ?_⟩
    obtain ⟨c, rfl⟩ := Int.eq_ofNat_of_zero_le c0
    rw [List.length_map] at c1
    obtain ⟨w, hw⟩ : ∃ w, ks[c]? = some w := ⟨_, List.getElem?_eq_getElem (by omega)⟩
    refine ⟨_, rfl, _, rfl, _, rfl, _, rfl, b, kp, rp, c, w, ks, rows, _, _, _, rfl, ⟨st2, hk st2, k1, k4, hrows, few⟩, hw, fun H3 x st3 _ hx => ?_⟩
    refine ⟨_, rfl, b, 8, rfl, _, _, _, st3, by decide, by decide, fun H4 way st4 _ w0 w1 => ⟨_, rfl, rfl, _, rfl, ?_⟩⟩
    refine ite2 (fun _ => ?_) (fun _ => ?_)
    · exact ⟨(by show 1 ≤ sizeLine; decide), fun l nl => fin .all [.str "all"] st4 nl (Iss.cons (.str _) .nil) (by rw [Cond.dat]) True.intro rfl rfl⟩
    refine ⟨fun σ H' => σ = [some (.ref b), some (.ref kp), some (.ref rp), some (.int c), some x.v, some (.int way)] ∧ H' = H4, ?_, ?_⟩
    · refine ⟨_, rfl, rfl, _, rfl, ?_⟩
      refine ite2 (fun _ => ?_) (fun _ => ite2 (fun z => Bool.noConfusion z) (fun _ => ⟨rfl, rfl⟩))
      refine ⟨_, rfl, _, rfl, kp, _, _, kdV w, rfl, rfl, hk st4, at_of (j := c) rfl (by rw [List.getElem?_map, hw]; rfl), (by cases w <;> rfl), _, rfl, ?_⟩
      refine ite2 (fun cw => ?_) (fun _ => ⟨rfl, rfl⟩)
      · have wt : w = true := kd_word.symm.trans cw
        subst wt
        obtain ⟨l, rfl, hl⟩ : ∃ l, x = .wrd l ∧ Lw l := by
          cases x with
          | num z => cases hx.1
          | wrd l => exact ⟨l, rfl, hx.2⟩
        refine ⟨_, rfl, _, rfl, _, rfl, b, 7, rfl, _, _, _, st4, by decide, by decide, fun H5 m st5 _ m0 m1 => ⟨_, rfl, S l, rfl, ?_, ?_⟩⟩
        · rw [S_len]
          have : sizeLine = 16777216 := sizeLine_eq
          have := hl.1
          omega
        · obtain ⟨m, rfl⟩ := Int.eq_ofNat_of_zero_le m0
          rw [cutS_to]
          exact ⟨(by show 3 ≤ sizeLine; decide), fun l' nl => fin (.begins c (l.take m)) _ st5 nl (Iss.cons (.str _) (Iss.cons (.int _) (Iss.cons (.str _) .nil))) (by rw [Cond.dat]) ⟨hw, by rw [List.length_take]; have := hl.1; omega, hl.2.take m⟩ rfl rfl⟩
    · rintro σ H' ⟨rfl, rfl⟩
      refine ⟨_, rfl, _, _, rfl, rfl, _, rfl, ?_⟩
      refine ite2 (fun _ => ?_) (fun _ => ?_)
      · exact ⟨_, rfl, _, rfl, (by show 3 ≤ sizeLine; decide), fun l nl => fin (.is c x) _ st4 nl (Iss.cons (.str _) (Iss.cons (.int _) (Iss.cons x.is .nil))) (by rw [Cond.dat]) ⟨w, hw, hx⟩ rfl rfl⟩
      refine ⟨_, rfl, _, _, rfl, rfl, _, rfl, ?_⟩
      refine ite2 (fun _ => ?_) (fun _ => ?_)
      · exact ⟨_, rfl, _, rfl, (by show 3 ≤ sizeLine; decide), fun l nl => fin (.less c x) _ st4 nl (Iss.cons (.str _) (Iss.cons (.int _) (Iss.cons x.is .nil))) (by rw [Cond.dat]) ⟨w, hw, hx⟩ rfl rfl⟩
      refine ⟨_, rfl, _, rfl, _, rfl, _, rfl, _, rfl, _, rfl, b, kp, rp, c, w, ks, rows, _, _, _, rfl, ⟨st4, hk st4, k1, k4, hrows, few⟩, hw, fun H5 y st5 _ hy => ?_⟩
      exact ⟨(by show 4 ≤ sizeLine; decide), fun l nl => fin (.within c x y) _ st5 nl (Iss.cons (.str _) (Iss.cons (.int _) (Iss.cons x.is (Iss.cons y.is .nil)))) (by rw [Cond.dat]) ⟨w, hw, hx, hy⟩ rfl rfl⟩
abbrev s__law_narrow : Stmt := top 53
abbrev N__law_narrow : List Str := ["_law_box", "_law_kinds_here", "_law_rows_here", "_law_found", "_law_turn", "_law_other", "_law_some"]
abbrev P__law_narrow : List Str := ["_law_box", "_law_kinds_here", "_law_rows_here"]
theorem sc__law_narrow : FnScope N__law_narrow P__law_narrow (defScope s__law_narrow) := ⟨rfl, rfl, rfl, by decide +kernel, rfl, by decide +kernel, by decide +kernel⟩
theorem ok_narrow {Ts : List (Addr × Str)} (T : Txt mg) (D0 : Df K mg "_law_narrow" s__law_narrow P__law_narrow) (G__law_take : Fn P w K mg base CX0 1 "_law_take" P__law_take (spDraw Ts)) (G__law_test : Fn P w K mg base CX0 5 "_law_test" P__law_test (spCond K Ts fun cd => cd.many = 1 ∧ cd.deep = 0)) : Fn P w K mg base CX0 6 "_law_narrow" P__law_narrow (spCond K Ts fun cd => cd.many ≤ 15 ∧ cd.deep ≤ 7) := by
  refine D0.ok sc__law_narrow (fun vs H Q E h => ?_) (fun f cdv A outer s H vs Q E hr h => ?_)
  · obtain ⟨b, kp, rp, ks, rows, H0, F0, As, rfl, _⟩ := h
    rfl
  · obtain ⟨b, kp, rp, ks, rows, H0', F0', As', rfl, ⟨stx, hkp, k1, k4, hrows, few⟩, k⟩ := h
    have nd := sc__law_narrow.nd
    refine ⟨_, (pss_cons (ps_set (i := 3) nd rfl (by first | exact Or.inl rfl | exact Or.inr rfl) (pe_c G__law_test (hr.mono (by decide)) pass0 (pa_cons (pv 0) (pa_cons (pv 1) (pa_cons (pv 2) pa_nil)))))
  (pss_cons (ps_for PassesOwn.never rfl (pi_range1 (by rfl) T.b_range (pa_cons (pe_op op_add pe_int (pe_c G__law_take (hr.mono (by decide)) pass0 (pa_cons (pv 0) (pa_cons pe_int pa_nil)))) pa_nil)) (pg_name (i := 4) nd rfl (by first | exact Or.inl rfl | exact Or.inr rfl))
  (pss_cons (ps_set (i := 5) nd rfl (by first | exact Or.inl rfl | exact Or.inr rfl) (pe_c G__law_test (hr.mono (by decide)) pass0 (pa_cons (pv 0) (pa_cons (pv 1) (pa_cons (pv 2) pa_nil)))))
  (pss_cons (ps_set (i := 6) nd rfl (by first | exact Or.inl rfl | exact Or.inr rfl) (pe_lst (pa_cons (pe_tup (pa_cons pe_str (pa_cons (pv 3) pa_nil))) (pa_cons (pe_tup (pa_cons pe_str (pa_cons (pv 3) (pa_cons (pv 5) pa_nil)))) (pa_cons (pe_tup (pa_cons pe_str (pa_cons (pv 5) (pa_cons (pv 3) pa_nil)))) (pa_cons (pe_tup (pa_cons pe_str (pa_cons (pe_tup (pa_cons pe_str pa_nil)) (pa_cons (pv 3) pa_nil)))) pa_nil))))))
  (pss_one (ps_set (i := 3) nd rfl (by first | exact Or.inl rfl | exact Or.inr rfl) (pe_ix ix_list (pv 6) (pe_c G__law_take (hr.mono (by decide)) pass0 (pa_cons (pv 0) (pa_cons pe_int pa_nil))) (fun _ _ => rfl)))))))
  (pss_one (ps_ret (pv 3))))), ?_⟩
    obtain ⟨F0, hF, back⟩ := stx.step (Cs := [boxT b, datT K rp (rows.map rowD)]) (Ds := As') (.refl _)
    have st : St Ts H F0 [boxT b, datT K rp (rows.map rowD)] H := .start hF stx.tabs
    have mu0 := Holds.mut hF
    have hk : ∀ {As H'}, St Ts H F0 As H' → SqT K H' kp (ks.map kdV) := fun h => (h.smT mu0).seqT hkp
    refine ⟨_, rfl, _, rfl, _, rfl, b, kp, rp, ks, rows, _, _, _, rfl, ⟨st, hkp, k1, k4, hrows, few⟩, fun H1 v cd st1 _ iv ok1 ⟨many1, deep1⟩ => ?_⟩
    refine ⟨_, rfl, b, 7, rfl, _, _, _, st1, by decide, by decide, fun H2 n st2 sm2 n0 n1 => ⟨_, _, rfl, rfl, _, rfl, by omega, by omega, ?_⟩⟩
    refine for_it (walk_range (lo := 0)) (fun i σ H' => (∃ v v4 v5 v6, σ = [some (.ref b), some (.ref kp), some (.ref rp), some v, v4, v5, v6] ∧ ∃ cd, Is K H' v cd.dat ∧ CondOk ks cd ∧ cd.many ≤ 1 + 2 * i ∧ cd.deep ≤ i) ∧ St Ts H F0 [boxT b, datT K rp (rows.map rowD)] H') ⟨⟨v, none, none, none, rfl, cd, iv.keep sm2, ok1, by omega, by omega⟩, st2⟩ (fun _ _ _ _ _ => True.intro) ?_ ?_
    · rintro i x σ H4 H4' hi ⟨⟨v, v4, v5, v6, rfl, cd, iv, ok1, hm, hd⟩, st4⟩ ⟨rfl, rfl⟩
      refine ⟨_, rfl, _, rfl, _, rfl, b, kp, rp, ks, rows, _, _, _, rfl, ⟨st4, hk st4, k1, k4, hrows, few⟩, fun H5 u ce st5 sm5 iu ok2 ⟨many2, deep2⟩ => ?_⟩
      have iv5 := iv.keep sm5
      refine ⟨_, rfl, (by show 2 ≤ sizeLine; decide), fun a1 na1 => ?_⟩
      have s1 := Same.upd (o := .tup [.str "not", v]) na1
      have i1 : Is K (L2.upd H5 a1 (.tup [.str "not", v])) (.ref a1) (Cond.not cd).dat := by
        rw [Cond.dat]
        exact (Iss.cons (.str _) (Iss.cons iv5 .nil)).made na1
      refine ⟨_, rfl, _, rfl, (by show 3 ≤ sizeLine; decide), fun a2 na2 => ?_⟩
      have s2 := Same.upd (o := .tup [.str "and", v, u]) na2
      have i2 : Is K (L2.upd (L2.upd H5 a1 (.tup [.str "not", v])) a2 (.tup [.str "and", v, u])) (.ref a2) (Cond.and cd ce).dat := by
        rw [Cond.dat]
        exact (Iss.cons (.str _) (Iss.cons (iv5.same s1) (Iss.cons (iu.same s1) .nil))).made na2
      have s12 := s1.trans s2
      have i1 := i1.same s2
      generalize hH6 : L2.upd (L2.upd H5 a1 (HO.tup [V.str "not", v])) a2 (HO.tup [V.str "and", v, u]) = H6 at i1 i2 s12 ⊢
      have iv6 := iv5.same s12
      have iu6 := iu.same s12
      refine ⟨_, rfl, _, rfl, (by show 3 ≤ sizeLine; decide), fun a3 na3 => ?_⟩
      have s3 := Same.upd (o := .tup [.str "or", u, v]) na3
      have i3 : Is K (L2.upd H6 a3 (.tup [.str "or", u, v])) (.ref a3) (Cond.or ce cd).dat := by
        rw [Cond.dat]
        exact (Iss.cons (.str _) (Iss.cons iu6 (Iss.cons iv6 .nil))).made na3
      refine ⟨(by show 1 ≤ sizeLine; decide), fun a5 na5 => ?_⟩
      have s4 := Same.upd (o := .tup [.str "all"]) na5
      have i5 : Is K (L2.upd (L2.upd H6 a3 (.tup [.str "or", u, v])) a5 (.tup [.str "all"])) (.ref a5) Cond.all.dat := by
        rw [Cond.dat]
        exact (Iss.cons (.str _) .nil).made na5
      refine ⟨_, rfl, (by show 3 ≤ sizeLine; decide), fun a4 na4 => ?_⟩
      have s5 := Same.upd (o := .tup [.str "and", .ref a5, v]) na4
      have i4 : Is K (L2.upd (L2.upd (L2.upd H6 a3 (.tup [.str "or", u, v])) a5 (.tup [.str "all"])) a4 (.tup [.str "and", .ref a5, v])) (.ref a4) (Cond.and .all cd).dat := by
        rw [Cond.dat]
        exact (Iss.cons (.str _) (Iss.cons i5 (Iss.cons ((iv6.same s3).same s4) .nil))).made na4
      have st9 := st5.same (s12.trans ((s3.trans s4).trans s5))
      have key : ∀ y ∈ [V.ref a1, .ref a2, .ref a3, .ref a4], ∃ c', Is K (L2.upd (L2.upd (L2.upd H6 a3 (.tup [.str "or", u, v])) a5 (.tup [.str "all"])) a4 (.tup [.str "and", .ref a5, v])) y c'.dat ∧ CondOk ks c' ∧ c'.many ≤ 1 + 2 * (i + 1) ∧ c'.deep ≤ i + 1 := fun y hy => by
        simp only [List.mem_cons, List.not_mem_nil, or_false] at hy
        rcases hy with rfl | rfl | rfl | rfl
        · exact ⟨_, i1.same ((s3.trans s4).trans s5), ok1, by show 1 + cd.many ≤ _; omega, by show 1 + cd.deep ≤ _; omega⟩
        · exact ⟨_, i2.same ((s3.trans s4).trans s5), ⟨ok1, ok2⟩, by show 1 + cd.many + ce.many ≤ _; omega, by show 1 + max cd.deep ce.deep ≤ _; omega⟩
        · exact ⟨_, i3.same (s4.trans s5), ⟨ok2, ok1⟩, by show 1 + ce.many + cd.many ≤ _; omega, by show 1 + max ce.deep cd.deep ≤ _; omega⟩
        · exact ⟨_, i4, ⟨True.intro, ok1⟩, by show 1 + 1 + cd.many ≤ _; omega, by show 1 + max 0 cd.deep ≤ _; omega⟩
      generalize hH9 : L2.upd (L2.upd (L2.upd H6 a3 (HO.tup [V.str "or", u, v])) a5 (HO.tup [V.str "all"])) a4 (HO.tup [V.str "and", V.ref a5, v]) = H9 at st9 key ⊢
      refine ⟨(by show 4 ≤ sizeLine; decide), fun q nq => ?_⟩
      have s10 := Same.upd (o := .lst [.ref a1, .ref a2, .ref a3, .ref a4]) nq
      have st10 := st9.new2 (xs := [.ref a1, .ref a2, .ref a3, .ref a4]) nq
      refine ⟨_, rfl, _, rfl, b, 4, rfl, _, _, _, st10, by decide, by decide, fun H11 z st11 sm11 z0 z1 => ?_⟩
      obtain ⟨y, hy, ya⟩ := pickV (zs := [V.ref a1, .ref a2, .ref a3, .ref a4]) z0 z1
      obtain ⟨c', ic, okc, mc, dc⟩ := key y hy
      exact ⟨q, _, z, _, rfl, rfl, SqL.of st11.lst2, ya, ⟨y, _, _, _, rfl, c', (ic.same s10).keep sm11, okc, mc, dc⟩, st11.del2⟩
    · rintro σ H4 ⟨⟨v, v4, v5, v6, rfl, cd, iv, ok1, hm, hd⟩, st4⟩
      obtain ⟨st5, sm⟩ := back st4
      exact ⟨_, rfl, k _ v cd st5 sm iv ok1 ⟨by omega, by omega⟩⟩
abbrev s__law_condition : Stmt := top 54
abbrev N__law_condition : List Str := ["_law_box", "_law_kinds_here", "_law_rows_here", "_law_deep", "_law_way", "_law_one"]
abbrev P__law_condition : List Str := ["_law_box", "_law_kinds_here", "_law_rows_here", "_law_deep"]
theorem sc__law_condition : FnScope N__law_condition P__law_condition (defScope s__law_condition) := ⟨rfl, rfl, rfl, by decide +kernel, rfl, by decide +kernel, by decide +kernel⟩
/-- depth, conditions in it -/
def CdBig (n : Nat) (cd : Cond) : Prop := (cd.many + 1 ≤ 2 ^ (n + 1) ∧ cd.deep ≤ n) ∨ (n = 3 ∧ cd.many ≤ 15 ∧ cd.deep ≤ 7)
def spLcd (K : PySem.W.Frag) (T : List (Addr × Str)) (n : Nat) : Sp := fun vs H Q _ => ∃ (b kp rp : Addr) (ks : List Bool) (rows : List (List Vl)) (H0 : Hp) (F0 : Foot) (As : List Thing), vs = [.ref b, .ref kp, .ref rp, .int n] ∧ CdIn K T b kp rp ks rows H0 F0 As H ∧
  ∀ H' v cd, St T H0 F0 (boxT b :: datT K rp (rows.map rowD) :: As) H' → SmT H H' → Is K H' v cd.dat → CondOk ks cd → CdBig n cd → Q v H'
theorem ok_cond {Ts : List (Addr × Str)} (T : Txt mg) (D0 : Df K mg "_law_condition" s__law_condition P__law_condition) (G__law_take : Fn P w K mg base CX0 1 "_law_take" P__law_take (spDraw Ts)) (G__law_test : Fn P w K mg base CX0 5 "_law_test" P__law_test (spCond K Ts fun cd => cd.many = 1 ∧ cd.deep = 0))
    (G__law_narrow : Fn P w K mg base CX0 6 "_law_narrow" P__law_narrow (spCond K Ts fun cd => cd.many ≤ 15 ∧ cd.deep ≤ 7)) : ∀ n, n ≤ 3 → Fn P w K mg base CX0 (7 + n) "_law_condition" P__law_condition (spLcd K Ts n) := by
  have gen : ∀ n, n ≤ 3 → Fn P w K mg base CX0 (6 + n) "_law_condition" P__law_condition (fun vs H Q E => ∃ m, n = m + 1 ∧ spLcd K Ts m vs H Q E) → Fn P w K mg base CX0 (6 + n + 1) "_law_condition" P__law_condition (spLcd K Ts n) := fun n n3 G_cond => by
    refine D0.ok sc__law_condition (fun vs H Q E h => ?_) (fun f cdv A outer s H vs Q E hr h => ?_)
    · obtain ⟨b, kp, rp, ks, rows, H0, F0, As, rfl, _⟩ := h
      rfl
    · obtain ⟨b, kp, rp, ks, rows, H0', F0', As', rfl, ⟨stx, hkp, k1, k4, hrows, few⟩, k⟩ := h
      have nd := sc__law_condition.nd
      have hr1 := hr.mono (show 1 ≤ 6 + n by omega)
      have hr5 := hr.mono (show 5 ≤ 6 + n by omega)
      have hr6 := hr.mono (show 6 ≤ 6 + n by omega)
      have hrn := hr
      refine ⟨_, (pss_cons (ps_set (i := 4) nd rfl (by first | exact Or.inl rfl | exact Or.inr rfl) (pe_c G__law_take hr1 pass0 (pa_cons (pv 0) (pa_cons pe_int pa_nil))))
  (Evl.pss_cut (ps_if (PW.pt (pw_and (pt_cmpR op_eq (pv 3) pe_int (nomark _)) (pw_and1 (pt_cmpR op_eq (pv 4) pe_int (nomark _)))))
  (pss_one (ps_ret (pe_c G__law_narrow hr6 pass0 (pa_cons (pv 0) (pa_cons (pv 1) (pa_cons (pv 2) pa_nil))))))
  pss_nil)
  (Evl.pss_cut (ps_if (PW.pt (pw_or (pt_cmpR op_eq (pv 3) pe_int (nomark _)) (pw_or1 (pt_cmpR op_lt (pv 4) pe_int (nomark _)))))
  (pss_one (ps_ret (pe_c G__law_test hr5 pass0 (pa_cons (pv 0) (pa_cons (pv 1) (pa_cons (pv 2) pa_nil))))))
  pss_nil)
  (pss_cons (ps_if (pt_cmpR op_eq (pv 4) pe_int (nomark _))
  (pss_one (ps_ret (pe_tup (pa_cons pe_str (pa_cons (pe_c G_cond hrn pass0 (pa_cons (pv 0) (pa_cons (pv 1) (pa_cons (pv 2) (pa_cons (pe_op op_sub (pv 3) pe_int) pa_nil))))) pa_nil)))))
  pss_nil)
  (pss_cons (ps_set (i := 5) nd rfl (by first | exact Or.inl rfl | exact Or.inr rfl) (pe_c G_cond hrn pass0 (pa_cons (pv 0) (pa_cons (pv 1) (pa_cons (pv 2) (pa_cons (pe_op op_sub (pv 3) pe_int) pa_nil))))))
  (pss_one (ps_ret (pe_tup (pa_cons (pe_ix ix_list (pe_lst (pa_cons pe_str (pa_cons pe_str pa_nil))) (pe_op op_sub (pv 4) pe_int) (fun _ _ => rfl)) (pa_cons (pv 5) (pa_cons (pe_c G_cond hrn pass0 (pa_cons (pv 0) (pa_cons (pv 1) (pa_cons (pv 2) (pa_cons (pe_op op_sub (pv 3) pe_int) pa_nil))))) pa_nil))))))))))), ?_⟩
      obtain ⟨F0, hF, back⟩ := stx.step (Cs := [boxT b, datT K rp (rows.map rowD)]) (Ds := As') (.refl _)
      have st : St Ts H F0 [boxT b, datT K rp (rows.map rowD)] H := .start hF stx.tabs
      have mu0 := Holds.mut hF
      have hk : ∀ {As H'}, St Ts H F0 As H' → SqT K H' kp (ks.map kdV) := fun h => (h.smT mu0).seqT hkp
      refine ⟨_, rfl, b, 6, rfl, _, _, _, st, by decide, by decide, fun H1 way st1 _ w0 w1 => ?_⟩
      refine ⟨fun σ H' => σ = [some (.ref b), some (.ref kp), some (.ref rp), some (.int n), some (.int way), none] ∧ H' = H1, ?_, ?_⟩
      · refine ⟨_, rfl, rfl, _, rfl, ?_⟩
        refine ite2 (fun c => ?_) (fun _ => ite2 (fun z => Bool.noConfusion z) (fun _ => ⟨rfl, rfl⟩))
        have n3' : n = 3 := by
          have := V.int.inj (of_decide_eq_true c)
          omega
        refine ⟨_, rfl, rfl, _, rfl, ?_⟩
        refine ite2 (fun _ => ?_) (fun _ => ⟨rfl, rfl⟩)
        refine ⟨_, rfl, _, rfl, _, rfl, b, kp, rp, ks, rows, _, _, _, rfl, ⟨st1, hk st1, k1, k4, hrows, few⟩, fun H2 v cd st2 _ iv okc big => ?_⟩
        obtain ⟨st3, sm⟩ := back st2
        exact k _ v cd st3 sm iv okc (.inr ⟨n3', big⟩)
      rintro σ H' ⟨rfl, rfl⟩
      refine ⟨fun σ H'' => σ = [some (.ref b), some (.ref kp), some (.ref rp), some (.int n), some (.int way), none] ∧ H'' = H' ∧ n ≠ 0 ∧ 3 ≤ way, ?_, ?_⟩
      · have test : tRet (tCall (spCond K Ts fun cd => cd.many = 1 ∧ cd.deep = 0) [] E0 (tCons (tVar 0) (tCons (tVar 1) (tCons (tVar 2) tNil)))) { nx := fun σ H'' => σ = [some (.ref b), some (.ref kp), some (.ref rp), some (.int n), some (.int way), none] ∧ H'' = H' ∧ n ≠ 0 ∧ 3 ≤ way, rt := Q } [some (.ref b), some (.ref kp), some (.ref rp), some (.int n), some (.int way), none] H' := by
          refine ⟨_, rfl, _, rfl, _, rfl, b, kp, rp, ks, rows, _, _, _, rfl, ⟨st1, hk st1, k1, k4, hrows, few⟩, fun H2 v cd st2 _ iv okc big => ?_⟩
          obtain ⟨st3, sm⟩ := back st2
          refine k _ v cd st3 sm iv okc (.inl ⟨?_, by omega⟩)
          rw [big.1, Nat.pow_succ]
          have := Nat.one_le_two_pow (n := n)
          omega
        refine ⟨_, rfl, rfl, _, rfl, ?_⟩
        refine ite2 (fun _ => ite2 (fun _ => test) (fun z => absurd rfl z)) (fun c => ?_)
        have n0 : n ≠ 0 := fun z => c (decide_eq_true (by rw [z]; rfl))
        refine ⟨_, rfl, _, _, rfl, rfl, _, rfl, ?_⟩
        refine ite2 (fun _ => test) (fun c2 => ⟨rfl, rfl, n0, ?_⟩)
        have : ¬ way < 3 := fun z => c2 (decide_eq_true z)
        omega
      rintro σ H'' ⟨rfl, rfl, n0, w3⟩
      obtain ⟨m, rfl⟩ : ∃ m, n = m + 1 := ⟨n - 1, by omega⟩
      have em : [V.ref b, .ref kp, .ref rp, .int (((m + 1 : Nat) : Int) - 1)] = [V.ref b, .ref kp, .ref rp, .int (m : Int)] := by
        rw [show (((m + 1 : Nat) : Int) - 1) = (m : Int) from by omega]
      have small : ∀ {cd}, CdBig m cd → cd.many + 1 ≤ 2 ^ (m + 1) ∧ cd.deep ≤ m := fun h => by
        rcases h with h | ⟨z, _⟩
        · exact h
        · omega
      have p2 : 2 ≤ 2 ^ (m + 1) := by
        rw [Nat.pow_succ]
        have := Nat.one_le_two_pow (n := m)
        omega
      have pn : 2 ^ (m + 1 + 1) = 2 ^ (m + 1) * 2 := Nat.pow_succ ..
      refine ⟨_, rfl, rfl, _, rfl, ?_⟩
      refine ite2 (fun _ => ?_) (fun c3 => ?_)
      · refine ⟨_, rfl, _, rfl, _, rfl, _, rfl, _, _, rfl, rfl, m, rfl, b, kp, rp, ks, rows, _, _, _, em, ⟨st1, hk st1, k1, k4, hrows, few⟩, fun H2 v cd st2 _ iv okc big => ⟨(by show 2 ≤ sizeLine; decide), fun l nl => ?_⟩⟩
        obtain ⟨st3, sm⟩ := back (st2.same (Same.upd (o := .tup [.str "not", v]) nl))
        obtain ⟨b1, b2⟩ := small big
        refine k _ _ (.not cd) st3 sm (by rw [Cond.dat]; exact (Iss.cons (.str _) (Iss.cons iv .nil)).made nl) okc (.inl ⟨?_, ?_⟩)
        · show 1 + cd.many + 1 ≤ _
          omega
        · show 1 + cd.deep ≤ _
          omega
      have c3' : way ≠ 3 := fun z => c3 (decide_eq_true (by rw [z]))
      refine ⟨_, rfl, _, rfl, _, rfl, _, rfl, _, _, rfl, rfl, m, rfl, b, kp, rp, ks, rows, _, _, _, em, ⟨st1, hk st1, k1, k4, hrows, few⟩, fun H2 v cd st2 _ iv okc big => ?_⟩
      refine ⟨(by show 2 ≤ sizeLine; decide), fun q nq => ?_⟩
      obtain ⟨oo, ho⟩ : ∃ oo : Bool, atI [V.str "and", .str "or"] (way - 4) = some (.str (if oo = true then "or" else "and")) := by
        rcases (show way = 4 ∨ way = 5 by omega) with rfl | rfl
        · exact ⟨false, at_of (z := 0) (j := 0) rfl rfl⟩
        · exact ⟨true, at_of (z := 1) (j := 1) rfl rfl⟩
      have st3 := st2.same (Same.upd (o := .lst [.str "and", .str "or"]) nq)
      have iv3 := iv.same (Same.upd (o := .lst [.str "and", .str "or"]) nq)
      refine ⟨_, rfl, _, _, rfl, rfl, q, _, _, _, rfl, rfl, SqL.of upd_same, ho, _, rfl, _, rfl, _, rfl, _, rfl, _, rfl, _, _, rfl, rfl, m, rfl, b, kp, rp, ks, rows, _, _, _, em, ⟨st3, hk st3, k1, k4, hrows, few⟩, fun H4 u ce st4 sm4 iu okd big2 => ⟨(by show 3 ≤ sizeLine; decide), fun l nl => ?_⟩⟩
      obtain ⟨st5, sm⟩ := back (st4.same (Same.upd (o := .tup [.str (if oo = true then "or" else "and"), v, u]) nl))
      obtain ⟨b1, b2⟩ := small big
      obtain ⟨b3, b4⟩ := small big2
      have iss := (Iss.cons (Is.str (K := K) (if oo = true then "or" else "and")) (Iss.cons (iv3.keep sm4) (Iss.cons iu .nil))).made nl
      cases oo with
      | false =>
        refine k _ _ (.and cd ce) st5 sm (by rw [Cond.dat]; exact iss) ⟨okc, okd⟩ (.inl ⟨?_, ?_⟩)
        · show 1 + cd.many + ce.many + 1 ≤ _
          omega
        · show 1 + max cd.deep ce.deep ≤ _
          omega
      | true =>
        refine k _ _ (.or cd ce) st5 sm (by rw [Cond.dat]; exact iss) ⟨okc, okd⟩ (.inl ⟨?_, ?_⟩)
        · show 1 + cd.many + ce.many + 1 ≤ _
          omega
        · show 1 + max cd.deep ce.deep ≤ _
          omega
  intro n
  induction n with
  | zero =>
    intro h
    exact gen 0 h (D0.void.imp fun vs H Q E ⟨m, z, _⟩ => by cases z)
  | succ n ih =>
    intro h
    have := gen (n + 1) h (by
      have := ih (by omega)
      rw [show 6 + (n + 1) = 7 + n by omega]
      exact this.imp fun vs H Q E ⟨m, z, hh⟩ => by
        cases z
        exact hh)
    rw [show 7 + (n + 1) = 6 + (n + 1) + 1 by omega]
    exact this
end
end K3

set_option Elab.async false
set_option linter.all false
set_option maxRecDepth 100000
set_option maxHeartbeats 4000000
/-! KSx: things made of things; facts; dicts -/
namespace K3
open PySem PySem.Spec PyProof.Rows L2
/-- some x, and the things that it names -/
def exT {α : Type} (f : α → List Thing) : Thing := ⟨fun H F => ∃ x, Holds (f x) H F, fun ⟨_, h⟩ => Holds.mut h, fun ⟨x, h⟩ k s => ⟨x, Holds.loc h k s⟩⟩
def factT (p : Prop) : Thing := ⟨fun _ F => p ∧ ∀ q, ¬ F q, fun ⟨_, h⟩ q f => absurd f (h q), fun h _ _ => h⟩
def dkT (p : Addr) (kvs : List (Key × V)) : Thing := ⟨fun H F => H p = some (.dK kvs) ∧ ∀ q, F q ↔ q = p, fun ⟨h, e⟩ q f => ((e q).mp f) ▸ ⟨_, h, .dK⟩, fun ⟨h, e⟩ k _ => ⟨k p _ ((e p).mpr rfl) h, e⟩⟩
section
variable {T : List (Addr × Str)} {H0 H H' : Hp} {F0 : Foot} {As : List Thing} {α : Type} {f : α → List Thing} {p : Addr} {kvs kvs' : List (Key × V)}
theorem St.openX (h : St T H0 F0 (exT f :: As) H) : ∃ x, St T H0 F0 (f x ++ As) H := by
  obtain ⟨⟨F, ⟨F1, F2, ⟨x, a⟩, b, d, e⟩, sub⟩, mv, tb⟩ := h
  exact ⟨x, ⟨F, Holds.app.mpr ⟨F1, F2, a, b, d, e⟩, sub⟩, mv, tb⟩
theorem St.closeX (x : α) (h : St T H0 F0 (f x ++ As) H) : St T H0 F0 (exT f :: As) H := by
  obtain ⟨⟨F, hF, sub⟩, mv, tb⟩ := h
  obtain ⟨F1, F2, a, b, d, e⟩ := Holds.app.mp hF
  exact ⟨⟨F, ⟨F1, F2, ⟨x, a⟩, b, d, e⟩, sub⟩, mv, tb⟩
theorem St.fact {q : Prop} (h : St T H0 F0 (factT q :: As) H) : q ∧ St T H0 F0 As H := by
  obtain ⟨⟨F, ⟨F1, F2, ⟨hq, n⟩, b, d, e⟩, sub⟩, mv, tb⟩ := h
  refine ⟨hq, ⟨F, b.feq fun r => ?_, sub⟩, mv, tb⟩
  rw [e r]
  exact ⟨.inr, fun z => z.elim (fun y => absurd y (n r)) id⟩
theorem St.addFact {q : Prop} (hq : q) (h : St T H0 F0 As H) : St T H0 F0 (factT q :: As) H := by
  obtain ⟨⟨F, b, sub⟩, mv, tb⟩ := h
  exact ⟨⟨F, ⟨fun _ => False, F, ⟨hq, fun _ z => z⟩, b, fun _ z => z.elim, fun r => ⟨.inr, fun z => z.elim False.elim id⟩⟩, sub⟩, mv, tb⟩
theorem St.dk (h : St T H0 F0 (dkT p kvs :: As) H) : H p = some (.dK kvs) := by
  obtain ⟨F1, ⟨a, _⟩, _⟩ := h.get
  exact a
theorem St.putDk (h : St T H0 F0 (dkT p kvs :: As) H) : St T H0 F0 (dkT p kvs' :: As) (L2.upd H p (.dK kvs')) ∧ SmT H (L2.upd H p (.dK kvs')) :=
  h.turn (B := dkT p kvs') fun F1 ⟨a, e⟩ m => ⟨F1, ⟨upd_same, e⟩, .upd ((e p).mpr rfl) ⟨_, a, .dK⟩, fun q f => .inl f⟩
theorem St.newDk (h : St T H0 F0 As H) (n : H p = none) : St T H0 F0 (dkT p kvs :: As) (L2.upd H p (.dK kvs)) := h.add (Same.upd n) ⟨fun q => q = p, ⟨upd_same, fun q => Iff.rfl⟩, fun q e => e ▸ n⟩
end
section
variable {T : List (Addr × Str)} {H0 H : Hp} {F0 : Foot} {As : List Thing} {α : Type} {g : α → Thing} {L : List α} {i : Nat} {x y : α}
theorem split_perm {α : Type} : ∀ {L : List α} {i : Nat} {x : α}, L[i]? = some x → L.Perm (x :: L.eraseIdx i)
  | [], _, _, h => by cases h
  | y :: L, 0, x, h => by
    cases h
    exact .refl _
  | y :: L, i + 1, x, h => by
    have h : L[i]? = some x := h
    show (y :: L).Perm (x :: y :: L.eraseIdx i)
    exact ((split_perm h).cons y).trans (List.Perm.swap x y _)
/-- one of many ahead; back, as it then is -/
theorem St.pickH (h : St T H0 F0 (L.map g ++ As) H) (hx : L[i]? = some x) : St T H0 F0 (g x :: ((L.eraseIdx i).map g ++ As)) H := h.perm (((split_perm hx).map g).append_right As)
theorem St.backH (hi : i < L.length) (h : St T H0 F0 (g y :: ((L.eraseIdx i).map g ++ As)) H) : St T H0 F0 ((L.set i y).map g ++ As) H := by
  have e : (L.set i y)[i]? = some y := by
    rw [List.getElem?_set, if_pos rfl, if_pos hi]
  have p := split_perm e
  rw [List.eraseIdx_set_eq] at p
  exact h.perm ((p.map g).append_right As).symm
end
theorem zip_set {α β : Type} : ∀ {as : List α} {bs : List β} {i : Nat} {a : α} {b : β}, as[i]? = some a → (as.zip bs).set i (a, b) = as.zip (bs.set i b)
  | [], bs, i, a, b, h => by cases h
  | x :: as, [], i, a, b, h => by simp
  | x :: as, y :: bs, 0, a, b, h => by
    cases h
    rfl
  | x :: as, y :: bs, i + 1, a, b, h => by
    show (x, y) :: (as.zip bs).set i (a, b) = (x, y) :: as.zip (bs.set i b)
    have h : as[i]? = some a := h
    rw [zip_set h]
theorem SmT.chg {H : Hp} {p : Addr} {o u : HO} (h : H p = some u) (m : Mutb u) : SmT H (L2.upd H p o) := fun b v e k => by
  refine (upd_ne fun z => ?_).trans e
  rw [z, h] at e
  obtain rfl := Option.some.inj e
  obtain ⟨n1, n2, _⟩ := m.not
  rcases k with ⟨xs, k⟩ | ⟨ob, xs, k⟩
  · exact n1 xs k
  · exact n2 _ _ k
theorem perm_mid (L R : List Thing) (X : Thing) : (X :: (L ++ R)).Perm ((L ++ [X]) ++ R) := by
  rw [List.append_assoc]
  exact List.perm_middle.symm
theorem code_frz {c : Addr} {q : Str} {od : Obj} {u : HO} : LamX.CodeO c q ≠ .frz od u := fun z => by
  unfold LamX.CodeO at z
  cases z
/-- a dict is walked: it is locked, the other things may change -/
theorem St.lock {T : List (Addr × Str)} {H0 H : Hp} {F0 : Foot} {As : List Thing} {d : Addr} {kvs : List (Key × V)} (od : Obj) (h : St T H0 F0 (dkT d kvs :: As) H) : ∃ F1, St T (L2.upd H d (.frz od (.dK kvs))) F1 As (L2.upd H d (.frz od (.dK kvs))) ∧
    ∀ {Bs H'}, St T (L2.upd H d (.frz od (.dK kvs))) F1 Bs H' → H' d = some (.frz od (.dK kvs)) ∧ St T H0 F0 (dkT d kvs :: Bs) (L2.upd H' d (.dK kvs)) ∧ SmT H (L2.upd H' d (.dK kvs)) := by
  obtain ⟨⟨F, ⟨G1, G2, ⟨hd, e1⟩, hAs, dis, e⟩, sub⟩, mv, tb⟩ := h
  have gd : G1 d := (e1 d).mpr rfl
  have nd : ¬ G2 d := dis d gd
  have sm1 : SmT H (L2.upd H d (.frz od (.dK kvs))) := .chg hd .dK
  have mA := hAs.mut
  have tb1 : ∀ {H'' : Hp}, LamX.Tabs T H → LamX.Tabs T (L2.upd H d (.frz od (.dK kvs))) := fun t => tabs_put t hd (fun ps z => by cases z) fun c q z => code_dK z
  have h1 : Holds As (L2.upd H d (.frz od (.dK kvs))) G2 := hAs.loc (fun q o f e0 => by
    have n : q ≠ d := fun z => nd (z ▸ f)
    exact (upd_ne n).trans e0) sm1
  refine ⟨G2, .start h1 (tb1 (H'' := H) tb), fun {Bs H'} st => ?_⟩
  obtain ⟨⟨F', hB, sub'⟩, mv', tb'⟩ := st
  have hd' : H' d = some (.frz od (.dK kvs)) := mv'.out d _ nd upd_same fun ps z => by cases z
  have mB := hB.mut
  have nF : ¬ F' d := fun f => by
    obtain ⟨o, eo, mo⟩ := mB d f
    rw [hd'] at eo
    obtain rfl := Option.some.inj eo
    exact mo.not.2.1 _ _ rfl
  have sm2 : SmT H' (L2.upd H' d (.dK kvs)) := fun b v e0 k => by
    refine (upd_ne fun z => ?_).trans e0
    rw [z, hd'] at e0
    obtain rfl := Option.some.inj e0
    rcases k with ⟨xs, k⟩ | ⟨ob, xs, k⟩ <;> cases k
  have tb2 : LamX.Tabs T H' → LamX.Tabs T (L2.upd H' d (.dK kvs)) := fun t => tabs_put t hd' (fun ps z => by cases z) fun c q z => code_frz z
  refine ⟨hd', ⟨⟨fun q => q = d ∨ F' q, ⟨fun q => q = d, F', ⟨upd_same, fun q => Iff.rfl⟩, hB.loc (fun q o f e0 => by
      have n : q ≠ d := fun z => nF (z ▸ f)
      exact (upd_ne n).trans e0) sm2, fun q z f => nF (z ▸ f), fun q => Iff.rfl⟩, fun q f => ?_⟩, ⟨fun q o n e0 t => ?_, fun t => tb2 (mv'.tabs (tb1 (H'' := H) (mv.tabs t)))⟩, tb2 tb'⟩, (sm1.trans (mv'.smT h1.mut)).trans sm2⟩
  · rcases f with f | f
    · exact sub q ((e q).mpr (.inl (f ▸ gd)))
    · have nq : q ≠ d := fun z => nF (z ▸ f)
      rcases sub' q f with z | z
      · exact sub q ((e q).mpr (.inr z))
      · by_cases f0 : F0 q
        · exact .inl f0
        · refine .inr fun ⟨o, eo, mo⟩ => z ⟨o, (upd_ne nq).trans (mv.out q o f0 eo fun ps y => mo.not.2.2.1 ps y), mo⟩
  · have e2 := mv.out q o n e0 t
    by_cases c : q = d
    · subst c
      rw [hd] at e2
      rw [← e2]
      exact upd_same
    · refine (upd_ne c).trans (mv'.out q o (fun g => ?_) ((upd_ne c).trans e2) t)
      rcases sub q ((e q).mpr (.inr g)) with z | z
      · exact n z
      · obtain ⟨o', eo, mo⟩ := mA q g
        rw [e2] at eo
        obtain rfl := Option.some.inj eo
        exact z ⟨_, e0, mo⟩
end K3

set_option Elab.async false
set_option linter.all false
set_option maxRecDepth 100000
set_option maxHeartbeats 4000000
/-! KCk: kinds, values, conditions judged by the program -/
namespace K3
open PySem PySem.Spec PyProof.Rows L2 SX
structure TxtK (mg : Str → Option Value) : Prop where
  c_NUMBER : ∃ t, mg "NUMBER" = some (.str "number" t)
  c_WORD : ∃ t, mg "WORD" = some (.str "word" t)
  c_LETTERS : ∃ t, mg "LETTERS" = some (.str "abcdefghijklmnopqrstuvwxyz" t)
  c_MOST_COLUMNS : ∃ t, mg "MOST_COLUMNS" = some (.int 4 t)
  c_MOST_LETTERS : ∃ t, mg "MOST_LETTERS" = some (.int 6 t)
  c_MOST_CONDITIONS : ∃ t, mg "MOST_CONDITIONS" = some (.int 15 t)
  c_MOST_AROUND : ∃ t, mg "MOST_AROUND" = some (.int 7 t)
  b_all : mg "all" = none
def ltrB (l : List Nat) : Bool := l.all fun c => decide (97 ≤ c ∧ c ≤ 122)
def wordB : Dat → Bool
  | .str z => decide (z.length ≤ 6) && ltrB z.cps.toList
  | _ => false
theorem letters_mem (c : Nat) : decide (c ∈ (Str.ofString "abcdefghijklmnopqrstuvwxyz").cps.toList) = decide (97 ≤ c ∧ c ≤ 122) := by
  have e : (Str.ofString "abcdefghijklmnopqrstuvwxyz").cps.toList = (List.range 26).map (97 + ·) := by decide
  rw [e]
  refine decide_eq_decide.mpr ?_
  rw [List.mem_map]
  constructor
  · rintro ⟨n, hn, rfl⟩
    have := List.mem_range.mp hn
    omega
  · intro h
    exact ⟨c - 97, List.mem_range.mpr (by omega), by omega⟩
/-- what type a datum has -/
def Dat.ty : Dat → String
  | .non => "NoneType"
  | .bl _ => "bool"
  | .int _ => "int"
  | .str _ => "str"
  | .tup _ => "tuple"
theorem Is.ty {K : PySem.W.Frag} {H : Hp} {v : V} {d : Dat} (h : Is K H v d) : TyX K H v (.type d.ty) := by
  cases h with
  | non => exact .base .non
  | bl b => exact .base (.bl b)
  | int i => exact .base (.int i)
  | str z => exact .base (.str z)
  | tup h _ _ => exact tyX_seqT h
def Dat.isStr : Dat → Bool
  | .str _ => true
  | _ => false
def Dat.isTup : Dat → Bool
  | .tup _ => true
  | _ => false
/-- truths are ints too -/
def Dat.isInt : Dat → Bool
  | .int _ => true
  | .bl _ => true
  | _ => false
theorem kits : (kitB "NoneType" "str" = some false ∧ kitB "bool" "str" = some false ∧ kitB "int" "str" = some false ∧ kitB "str" "str" = some true ∧ kitB "tuple" "str" = some false) ∧
    (kitB "NoneType" "tuple" = some false ∧ kitB "bool" "tuple" = some false ∧ kitB "int" "tuple" = some false ∧ kitB "str" "tuple" = some false ∧ kitB "tuple" "tuple" = some true) ∧
    (kitB "NoneType" "int" = some false ∧ kitB "bool" "int" = some true ∧ kitB "int" "int" = some true ∧ kitB "str" "int" = some false ∧ kitB "tuple" "int" = some false) := by
  refine ⟨⟨?_, ?_, ?_, ?_, ?_⟩, ⟨?_, ?_, ?_, ?_, ?_⟩, ?_, ?_, ?_, ?_, ?_⟩ <;> decide +kernel
theorem kit_str {K : PySem.W.Frag} : ∀ d : Dat, PySem.W.kitOne K (.type d.ty) (.type "str") = some d.isStr
  | .non => kit_ty kits.1.1
  | .bl _ => kit_ty kits.1.2.1
  | .int _ => kit_ty kits.1.2.2.1
  | .str _ => kit_ty kits.1.2.2.2.1
  | .tup _ => kit_ty kits.1.2.2.2.2
theorem kit_tup {K : PySem.W.Frag} : ∀ d : Dat, PySem.W.kitOne K (.type d.ty) (.type "tuple") = some d.isTup
  | .non => kit_ty kits.2.1.1
  | .bl _ => kit_ty kits.2.1.2.1
  | .int _ => kit_ty kits.2.1.2.2.1
  | .str _ => kit_ty kits.2.1.2.2.2.1
  | .tup _ => kit_ty kits.2.1.2.2.2.2
theorem kit_int {K : PySem.W.Frag} : ∀ d : Dat, PySem.W.kitOne K (.type d.ty) (.type "int") = some d.isInt
  | .non => kit_ty kits.2.2.1
  | .bl _ => kit_ty kits.2.2.2.1
  | .int _ => kit_ty kits.2.2.2.2.1
  | .str _ => kit_ty kits.2.2.2.2.2.1
  | .tup _ => kit_ty kits.2.2.2.2.2.2
/-- texts that fit -/
def StrFit (d : Dat) : Prop := ∀ z, d = .str z → z.length ≤ sizeLine
section
variable {P : Program} {w : World} {K : PySem.W.Frag} {mg : Str → Option Value} {base : Heap}
abbrev s_is_word : Stmt := top 25
abbrev N_is_word : List Str := ["value", "sign"]
abbrev P_is_word : List Str := ["value"]
theorem sc_is_word : FnScope N_is_word P_is_word (defScope s_is_word) := ⟨rfl, rfl, rfl, by decide +kernel, rfl, by decide +kernel, by decide +kernel⟩
def spIsW (K : PySem.W.Frag) : Sp := fun vs H Q _ => ∃ (v : V) (d : Dat), vs = [v] ∧ Is K H v d ∧ StrFit d ∧ ∀ H', Same H H' → Q (.bl (wordB d)) H'
theorem ok_is_word (T : Txt mg) (T4 : Txt4 mg) (TK : TxtK mg) (D0 : Df K mg "is_word" s_is_word P_is_word) : Fn P w K mg base CX0 1 "is_word" P_is_word (spIsW K) := by
  refine D0.ok sc_is_word (fun vs H Q E h => ?_) (fun f cdv A outer s H vs Q E hr h => ?_)
  · obtain ⟨v, d, rfl, _⟩ := h
    rfl
  · obtain ⟨v, d, rfl, iv, fit, k⟩ := h
    have nd := sc_is_word.nd
    refine ⟨_, (pss_cons (ps_if (PW.pt (pw_or (pt_not (pt_val (pe_callB call_isi (by rfl) T.b_isinstance (by decide +kernel) (pa_cons (pv 0) (pa_cons (pe_bltn (v := .ty "str") (by rfl) T4.b_str (by decide +kernel) rfl) pa_nil))))) (pw_or1 (pt_cmpR op_gt (pe_callB call_len_str (by rfl) T.b_len (by decide +kernel) (pa_cons (pv 0) pa_nil)) (pe_gint TK.c_MOST_LETTERS) (nomark _)))))
  (pss_one (ps_ret pe_bl))
  pss_nil)
  (pss_one (ps_ret (pe_callB (cr_all rfl) (by rfl) TK.b_all (by decide +kernel) (pa_cons (pe_lc (own := [("sign", 1)]) (g := gName 1) (by rfl) nd  (pi_str (pv 0)) (blkOk_by (own := [("sign", 1)]) (N := N_is_word) (sc := defScope s_is_word) (by decide +kernel)) (fun _ _ _ _ _ => pg_name (i := 1) nd rfl (Or.inl rfl)) (fun _ _ _ _ _ => pts_nil) (fun _ _ _ _ _ => (pe_cmpR op_in_sign (pv 1) (pe_gstr TK.c_LETTERS) (by rfl)))) pa_nil))))), ?_⟩
    refine ⟨_, rfl, _, .ty "str", _, .type "str", _, rfl, .ty _, iv.ty, kit_str d, _, rfl, ?_⟩
    have other : d.isStr = false → Q (.bl false) H := fun z => by
      have := k H (.refl H)
      rwa [show wordB d = false from by cases d <;> first | rfl | (cases z)] at this
    refine ite2 (fun c => ?_) (fun c => ?_)
    · have c' : d.isStr = false := by simpa using c
      exact ite2 (fun _ => other c') (fun z => absurd rfl z)
    cases d with
    | non => exact absurd rfl c
    | bl b => exact absurd rfl c
    | int b => exact absurd rfl c
    | tup b => exact absurd rfl c
    | str z =>
      cases iv
      have hz := fit z rfl
      refine ⟨_, rfl, z, rfl, hz, _, _, rfl, rfl, _, rfl, ?_⟩
      refine ite2 (fun c => ?_) (fun c => ?_)
      · have c' : (6 : Int) < z.length := of_decide_eq_true c
        have := k H (.refl H)
        rwa [show wordB (.str z) = false from by
          show (decide (z.length ≤ 6) && _) = false
          rw [decide_eq_false (by omega)]
          rfl] at this
      · have c' : ¬ (6 : Int) < z.length := fun y => c (decide_eq_true y)
        refine ⟨_, rfl, z, rfl, fun D0 nD => ?_⟩
        refine lc_all walk_str (fun m H' => Same H H' ∧ H' D0 = some (.lst ((z.cps.toList.take m).map fun c => V.bl (decide (97 ≤ c ∧ c ≤ 122))))) ⟨Same.upd nD, upd_same⟩ (fun _ _ _ _ => True.intro) ?_ ?_
        · rintro m x H1 H1' hm ⟨s1, hD⟩ ⟨rfl, c1, hc1, rfl⟩
          refine ⟨_, rfl, c1, _, rfl, rfl, ?_⟩
          rw [letters_mem]
          refine ⟨_, hD, ?_, ?_⟩
          · have : sizeLine = 16777216 := sizeLine_eq
            have l2 := List.length_take_le' m z.cps.toList
            rw [List.length_map]
            have l3 : z.cps.toList.length = z.length := Array.length_toList
            omega
          · have e : z.cps.toList[m]? = some c1 := by
              rw [Array.getElem?_toList]
              exact hc1
            rw [List.take_succ, e, List.map_append]
            exact ⟨fun r u e => (upd_ne fun y => by
              rw [y, nD] at e
              cases e).trans (s1 r u e), upd_same⟩
        · rintro H1 ⟨s1, hD⟩
          rw [List.take_of_length_le (by rw [Array.length_toList]; exact Nat.le_refl _)] at hD
          have hD : H1 D0 = some (.lst ((z.cps.toList.map fun c => decide (97 ≤ c ∧ c ≤ 122)).map V.bl)) := by
            rw [List.map_map]
            exact hD
          refine ⟨D0, _, rfl, SqL.of hD, ?_⟩
          have := k H1 s1
          rwa [show wordB (.str z) = (z.cps.toList.map fun c => decide (97 ≤ c ∧ c ≤ 122)).all id from by
            show (decide (z.length ≤ 6) && ltrB z.cps.toList) = _
            rw [decide_eq_true (by omega), Bool.true_and, List.all_map]
            rfl] at this
abbrev s_is_value : Stmt := top 24
abbrev N_is_value : List Str := ["kind", "value"]
abbrev P_is_value : List Str := ["kind", "value"]
theorem sc_is_value : FnScope N_is_value P_is_value (defScope s_is_value) := ⟨rfl, rfl, rfl, by decide +kernel, rfl, by decide +kernel, by decide +kernel⟩
/-- a value of a column: w: words -/
def valB (w : Bool) : Dat → Bool
  | .int i => !w && decide (-9999 ≤ i ∧ i ≤ 9999)
  | d => w && wordB d
/-- no truth, and texts that fit -/
def Plain (d : Dat) : Prop := StrFit d ∧ ∀ b, d ≠ .bl b
def spIsV (K : PySem.W.Frag) : Sp := fun vs H Q _ => ∃ (w : Bool) (v : V) (d : Dat), vs = [kdV w, v] ∧ Is K H v d ∧ Plain d ∧ ∀ H', Same H H' → Q (.bl (valB w d)) H'
theorem ok_is_value (T : Txt mg) (TK : TxtK mg) (D0 : Df K mg "is_value" s_is_value P_is_value) (G_is_word : Fn P w K mg base CX0 1 "is_word" P_is_word (spIsW K)) : Fn P w K mg base CX0 2 "is_value" P_is_value (spIsV K) := by
  refine D0.ok sc_is_value (fun vs H Q E h => ?_) (fun f cdv A outer s H vs Q E hr h => ?_)
  · obtain ⟨w, v, d, rfl, _⟩ := h
    rfl
  · obtain ⟨w, v, d, rfl, iv, ⟨fit, nb⟩, k⟩ := h
    have nd := sc_is_value.nd
    refine ⟨_, (pss_cons (ps_if (pt_cmpR op_eq (pv 0) (pe_gstr TK.c_WORD) (nomark _))
  (pss_one (ps_ret (pe_c G_is_word (hr.mono (by decide)) pass0 (pa_cons (pv 1) pa_nil))))
  pss_nil)
  (pss_one (ps_ret (pe_and (pe_callB call_isi (by rfl) T.b_isinstance (by decide +kernel) (pa_cons (pv 1) (pa_cons (pe_bltn (v := .ty "int") (by rfl) T.b_int (by decide +kernel) rfl) pa_nil))) (pe_one (pe_chain op_le op_le (pe_un un_neg (pe_gint T.c_MOST)) (pv 1) (pe_gint T.c_MOST))))))), ?_⟩
    refine ⟨_, rfl, (by cases w <;> rfl), _, rfl, ?_⟩
    refine ite2 (fun c => ?_) (fun c => ?_)
    · have c' : w = true := kd_word.symm.trans c
      subst c'
      refine ⟨_, rfl, v, d, rfl, iv, fit, fun H' s' => ?_⟩
      have := k H' s'
      rwa [show valB true d = wordB d from by cases d <;> rfl] at this
    · have c' : w = false := by
        have := kd_word (w := w)
        cases w
        · rfl
        · exact absurd this c
      subst c'
      refine ⟨_, rfl, _, .ty "int", _, .type "int", _, rfl, .ty _, iv.ty, kit_int d, _, rfl, ?_⟩
      have kk := k H (.refl H)
      cases d with
      | non => exact ite2 (fun z => Bool.noConfusion z) (fun _ => kk)
      | bl b => exact absurd rfl (nb b)
      | str b => exact ite2 (fun z => Bool.noConfusion z) (fun _ => kk)
      | tup b => exact ite2 (fun z => Bool.noConfusion z) (fun _ => kk)
      | int i =>
        cases iv
        refine ite2 (fun _ => ?_) (fun z => absurd rfl z)
        have kv : Q (.bl (decide (-9999 ≤ i) && decide (i ≤ 9999))) H := by
          rwa [show valB false (.int i) = (decide (-9999 ≤ i) && decide (i ≤ 9999)) from by
            show (true && decide (-9999 ≤ i ∧ i ≤ 9999)) = _
            rw [Bool.true_and, Bool.decide_and]] at kk
        refine ⟨_, rfl, _, rfl, _, _, rfl, rfl, _, rfl, ?_⟩
        refine ite2 (fun c => ?_) (fun c => ?_)
        · have c : decide (-9999 ≤ i) = true := c
          rw [c, Bool.true_and] at kv
          exact ⟨_, _, rfl, rfl, kv⟩
        · have c : decide (-9999 ≤ i) = false := Bool.not_eq_true _ |>.mp c
          rw [c, Bool.false_and] at kv
          exact kv
abbrev s_check_kinds : Stmt := top 22
abbrev N_check_kinds : List Str := ["kinds", "kind"]
abbrev P_check_kinds : List Str := ["kinds"]
theorem sc_check_kinds : FnScope N_check_kinds P_check_kinds (defScope s_check_kinds) := ⟨rfl, rfl, rfl, by decide +kernel, rfl, by decide +kernel, by decide +kernel⟩
def spCkK (K : PySem.W.Frag) : Sp := fun vs H Q _ => ∃ (kp : Addr) (ks : List Bool), vs = [.ref kp] ∧ SqT K H kp (ks.map kdV) ∧ 1 ≤ ks.length ∧ ks.length ≤ 4 ∧ Q .non H
theorem ok_check_kinds (T : Txt mg) (TK : TxtK mg) (D0 : Df K mg "check_kinds" s_check_kinds P_check_kinds) : Fn P w K mg base CX0 1 "check_kinds" P_check_kinds (spCkK K) := by
  refine D0.ok sc_check_kinds (fun vs H Q E h => ?_) (fun f cdv A outer s H vs Q E hr h => ?_)
  · obtain ⟨kp, ks, rfl, _⟩ := h
    rfl
  · obtain ⟨kp, ks, rfl, hkp, k1, k4, k⟩ := h
    have nd := sc_check_kinds.nd
    refine ⟨_, (pss_cons (ps_if (PW.pt (pw_or (pt_cmpR op_lt (pe_callB call_len_seq (by rfl) T.b_len (by decide +kernel) (pa_cons (pv 0) pa_nil)) pe_int (nomark _)) (pw_or1 (pt_cmpR op_gt (pe_callB call_len_seq (by rfl) T.b_len (by decide +kernel) (pa_cons (pv 0) pa_nil)) (pe_gint TK.c_MOST_COLUMNS) (nomark _)))))
  (pss_one ps_never)
  pss_nil)
  (pss_one (ps_for PassesOwn.never rfl (pi_tup (pv 0)) (pg_name (i := 1) nd rfl (by first | exact Or.inl rfl | exact Or.inr rfl))
  (pss_one (ps_if (PW.pt (pw_and (pt_cmpR op_ne (pv 1) (pe_gstr TK.c_NUMBER) (nomark _)) (pw_and1 (pt_cmpR op_ne (pv 1) (pe_gstr TK.c_WORD) (nomark _)))))
  (pss_one ps_never)
  pss_nil))))), ?_⟩
    refine ⟨_, rfl, kp, _, rfl, .inr hkp, _, _, rfl, rfl, _, rfl, ?_⟩
    refine ite2 (fun c => ?_) (fun _ => ?_)
    · have c' : (((ks.map kdV).length : Nat) : Int) < 1 := of_decide_eq_true c
      rw [List.length_map] at c'
      omega
    refine ⟨_, rfl, kp, _, rfl, .inr hkp, _, _, rfl, rfl, _, rfl, ?_⟩
    refine ite2 (fun c => ?_) (fun _ => ?_)
    · have c' : (4 : Int) < (((ks.map kdV).length : Nat) : Int) := of_decide_eq_true c
      rw [List.length_map] at c'
      omega
    refine ⟨_, rfl, kp, rfl, ⟨_, hkp⟩, for_it (walk_tup (xs := ks.map kdV)) (fun i σ H' => (∃ v1, σ = [some (.ref kp), v1]) ∧ H' = H) ⟨⟨none, rfl⟩, rfl⟩ (fun _ _ _ _ ⟨_, e⟩ => e ▸ hkp) ?_ ?_⟩
    · rintro i x σ H1 H1' hi ⟨⟨v1, rfl⟩, rfl⟩ ⟨rfl, e⟩
      obtain ⟨w, hw, rfl⟩ := map_at e
      refine ⟨_, rfl, (by cases w <;> rfl), _, rfl, ?_⟩
      refine ite2 (fun c => ?_) (fun _ => ite2 (fun z => Bool.noConfusion z) (fun _ => ⟨⟨_, rfl⟩, rfl⟩))
      refine ⟨_, rfl, (by cases w <;> rfl), _, rfl, ?_⟩
      refine ite2 (fun c2 => ?_) (fun _ => ⟨⟨_, rfl⟩, rfl⟩)
      have e1 : (!decide (kdV w = V.str "number")) = true := c
      have e2 : (!decide (kdV w = V.str "word")) = true := c2
      rw [kd_number] at e1
      rw [kd_word] at e2
      cases w
      · cases e1
      · cases e2
    · rintro σ H1 ⟨⟨v1, rfl⟩, rfl⟩
      exact k
end
end K3

set_option Elab.async false
set_option linter.all false
set_option maxRecDepth 100000
set_option maxHeartbeats 4000000
/-! KCl: conditions judged by the program -/
namespace K3
open PySem PySem.Spec PyProof.Rows L2 SX
/-- the parts of each kind of condition -/
def partsT : List (Str × List Str) := [("all", []), ("is", ["column", "value"]), ("less", ["column", "value"]), ("within", ["column", "value", "value"]), ("begins", ["column", "value"]), ("not", ["condition"]), ("and", ["condition", "condition"]), ("or", ["condition", "condition"])]
def partsOf (z : Str) : Option (List Str) := partsT.lookup z
structure PartsT (K : PySem.W.Frag) (w : World) (mg : Str → Option Value) (pd : Addr) (es : Array DictEntry) (n : Nat) : Prop where
  g : mg "PARTS" = some (.ref pd)
  D : KDict K w pd es n
  no : ∀ z, partsOf z = none → PySem.W.nsIn K pd z = some none
  yes : ∀ z ps, partsOf z = some ps → ∃ t, PySem.W.nsIn K pd z = some (some (.ref t)) ∧ ∀ H : Hp, SqT K H t (ps.map V.str)
section
variable {P : Program} {w : World} {K : PySem.W.Frag} {mg : Str → Option Value} {base : Heap}
abbrev s_is_column : Stmt := top 23
abbrev N_is_column : List Str := ["kinds", "column"]
abbrev P_is_column : List Str := ["kinds", "column"]
theorem sc_is_column : FnScope N_is_column P_is_column (defScope s_is_column) := ⟨rfl, rfl, rfl, by decide +kernel, rfl, by decide +kernel, by decide +kernel⟩
def colB (n : Nat) : Dat → Bool
  | .int i => decide (0 ≤ i) && decide (i < n)
  | _ => false
def spIsC (K : PySem.W.Frag) : Sp := fun vs H Q _ => ∃ (kp : Addr) (v : V) (d : Dat) (ks : List Bool), vs = [.ref kp, v] ∧ SqT K H kp (ks.map kdV) ∧ Is K H v d ∧ Plain d ∧ Q (.bl (colB ks.length d)) H
theorem ok_is_column (T : Txt mg) (D0 : Df K mg "is_column" s_is_column P_is_column) : Fn P w K mg base CX0 1 "is_column" P_is_column (spIsC K) := by
  refine D0.ok sc_is_column (fun vs H Q E h => ?_) (fun f cdv A outer s H vs Q E hr h => ?_)
  · obtain ⟨kp, v, d, ks, rfl, _⟩ := h
    rfl
  · obtain ⟨kp, v, d, ks, rfl, hkp, iv, ⟨_, nb⟩, k⟩ := h
    have nd := sc_is_column.nd
    refine ⟨_, (pss_one (ps_ret (pe_and (pe_callB call_isi (by rfl) T.b_isinstance (by decide +kernel) (pa_cons (pv 1) (pa_cons (pe_bltn (v := .ty "int") (by rfl) T.b_int (by decide +kernel) rfl) pa_nil))) (pe_one (pe_chain op_le op_lt pe_int (pv 1) (pe_callB call_len_seq (by rfl) T.b_len (by decide +kernel) (pa_cons (pv 0) pa_nil))))))), ?_⟩
    refine ⟨_, rfl, _, .ty "int", _, .type "int", _, rfl, .ty _, iv.ty, kit_int d, _, rfl, ?_⟩
    cases d with
    | non => exact ite2 (fun z => Bool.noConfusion z) (fun _ => k)
    | bl b => exact absurd rfl (nb b)
    | str b => exact ite2 (fun z => Bool.noConfusion z) (fun _ => k)
    | tup b => exact ite2 (fun z => Bool.noConfusion z) (fun _ => k)
    | int i =>
      cases iv
      refine ite2 (fun _ => ?_) (fun z => absurd rfl z)
      have kv : Q (.bl (decide (0 ≤ i) && decide (i < (ks.length : Int)))) H := k
      refine ⟨_, rfl, _, _, rfl, rfl, _, rfl, ?_⟩
      refine ite2 (fun c => ?_) (fun c => ?_)
      · have c : decide (0 ≤ i) = true := c
        rw [c, Bool.true_and] at kv
        refine ⟨_, rfl, kp, _, rfl, .inr hkp, _, _, rfl, rfl, ?_⟩
        rw [List.length_map]
        exact kv
      · have c : decide (0 ≤ i) = false := Bool.not_eq_true _ |>.mp c
        rw [c, Bool.false_and] at kv
        exact kv
theorem PartsT.kd {pd : Addr} {es : Array DictEntry} {n : Nat} (PA : PartsT K w mg pd es n) {z : Str} {ps : List Str} (h : partsOf z = some ps) : ∃ t, KDct K w pd z (.ref t) ∧ ∀ H : Hp, SqT K H t (ps.map V.str) := by
  obtain ⟨t, e, q⟩ := PA.yes z ps h
  exact ⟨t, ⟨es, n, _, PA.D.at_, PA.D.lit, e, rfl⟩, q⟩
theorem parts_len {z : Str} {ps : List Str} (h : partsOf z = some ps) : ps.length ≤ 3 ∧ z.length ≤ 6 := by
  unfold partsOf partsT at h
  simp only [List.lookup] at h
  repeat' split at h
  all_goals first
    | (cases h
       rename_i e
       rw [eq_of_beq e]
       exact ⟨by decide, by decide⟩)
    | cases h
abbrev s_check_parts : Stmt := top 32
abbrev N_check_parts : List Str := ["condition", "name"]
abbrev P_check_parts : List Str := ["condition"]
theorem sc_check_parts : FnScope N_check_parts P_check_parts (defScope s_check_parts) := ⟨rfl, rfl, rfl, by decide +kernel, rfl, by decide +kernel, by decide +kernel⟩
/-- a tuple, its name first, as many parts as it must have -/
def shapeB : Dat → Bool
  | .tup (.str z :: ds) => match partsOf z with
    | some ps => decide (ds.length = ps.length)
    | none => false
  | _ => false
def spCkP (K : PySem.W.Frag) (CB : Addr) : Sp := fun vs H Q E => ∃ (v : V) (d : Dat), vs = [v] ∧ Is K H v d ∧ (shapeB d = true → ∀ H', Same H H' → Q .non H') ∧ (shapeB d = false → ∀ H', Same H H' → E (.ref CB) none H')
theorem ok_check_parts {pd : Addr} {es : Array DictEntry} {n : Nat} {CB : Addr} (PA : PartsT K w mg pd es n) (T : Txt mg) (T4 : Txt4 mg) (XC : ExcN K mg "BadCondition" CB) (D0 : Df K mg "check_parts" s_check_parts P_check_parts) : Fn P w K mg base (L2.CX P w) 1 "check_parts" P_check_parts (spCkP K CB) := by
  refine D0.okX sc_check_parts (fun vs H Q E h => ?_) (fun f cdv A outer s H vs Q E hr h => ?_)
  · obtain ⟨v, d, rfl, _⟩ := h
    rfl
  · obtain ⟨v, d, rfl, iv, k1, k0⟩ := h
    have nd := sc_check_parts.nd
    refine ⟨_, (pss_cons (ps_if (PW.pt (pw_or (pt_not (pt_val (pe_callB call_isi (by rfl) T.b_isinstance (by decide +kernel) (pa_cons (pv 0) (pa_cons (pe_bltn (v := .ty "tuple") (by rfl) T.b_tuple (by decide +kernel) rfl) pa_nil))))) (pw_or1 (pt_cmpR op_eq (pe_callB call_len_seq (by rfl) T.b_len (by decide +kernel) (pa_cons (pv 0) pa_nil)) pe_int (nomark _)))))
  (pss_one (ps_raise rfl (takes_of rfl rfl rfl rfl) (pmk_own PySem.F.excBase_ValueError XC.x XC.g XC.k (raises_own XC.b XC.t) rfl)))
  pss_nil)
  (pss_cons (ps_set (i := 1) nd rfl (by first | exact Or.inl rfl | exact Or.inr rfl) (pe_ix ix_tup (pv 0) pe_int (fun _ _ => rfl)))
  (pss_cons (ps_if (PW.pt (pw_or (pt_not (pt_val (pe_callB call_isi (by rfl) T.b_isinstance (by decide +kernel) (pa_cons (pv 1) (pa_cons (pe_bltn (v := .ty "str") (by rfl) T4.b_str (by decide +kernel) rfl) pa_nil))))) (pw_or1 (pt_cmpR (op_notIn_kd PA.D) (pv 1) (pe_glob (v := .ref pd) (by rfl) PA.g rfl) (by rfl)))))
  (pss_one (ps_raise rfl (takes_of rfl rfl rfl rfl) (pmk_own PySem.F.excBase_ValueError XC.x XC.g XC.k (raises_own XC.b XC.t) rfl)))
  pss_nil)
  (pss_one (ps_if (pt_cmpR op_ne (pe_callB call_len_seq (by rfl) T.b_len (by decide +kernel) (pa_cons (pv 0) pa_nil)) (pe_op op_add pe_int (pe_callB call_len_seq (by rfl) T.b_len (by decide +kernel) (pa_cons (pe_ix ix_kdict (pe_glob (v := .ref pd) (by rfl) PA.g rfl) (pv 1) (fun _ _ => rfl)) pa_nil))) (nomark _))
  (pss_one (ps_raise rfl (takes_of rfl rfl rfl rfl) (SkE.pmk_own1 PySem.F.excBase_ValueError XC.x XC.g XC.k (raises_own XC.b XC.t) rfl (pe_joined (.cons pe_str (.cons (pe_fmt (pv 1)) (.cons pe_str (.cons (pe_fmt (pe_callB call_len_seq (by rfl) T.b_len (by decide +kernel) (pa_cons (pe_ix ix_kdict (pe_glob (v := .ref pd) (by rfl) PA.g rfl) (pv 1) (fun _ _ => rfl)) pa_nil))) (.cons pe_str .nil)))))))))
  pss_nil))))), ?_⟩
    refine ⟨_, rfl, _, .ty "tuple", _, .type "tuple", _, rfl, .ty _, iv.ty, kit_tup d, _, rfl, ?_⟩
    refine ite2 (fun c => ?_) (fun c => ?_)
    · have c' : d.isTup = false := by simpa using c
      exact ite2 (fun _ => k0 (by cases d <;> first | rfl | (cases c')) _ (Same.refl _)) (fun z => absurd rfl z)
    cases d with
    | non => exact absurd rfl c
    | bl b => exact absurd rfl c
    | int b => exact absurd rfl c
    | str b => exact absurd rfl c
    | tup ds =>
      obtain ⟨a, xs, rfl, ha, ixs⟩ := is_tup iv
      refine ⟨_, rfl, a, xs, rfl, .inr ha, rfl, _, rfl, ?_⟩
      cases ds with
      | nil =>
        have e : xs = [] := List.eq_nil_of_length_eq_zero ixs.1
        subst e
        exact ite2 (fun _ => k0 rfl _ (Same.refl _)) (fun z => absurd rfl z)
      | cons d0 ds =>
        obtain ⟨x, ys, rfl⟩ : ∃ x ys, xs = x :: ys := by
          cases xs with
          | nil => cases ixs.1
          | cons x ys => exact ⟨x, ys, rfl⟩
        obtain ⟨ix, iys⟩ := ixs.uncons
        refine ite2 (fun z => ?_) (fun _ => ?_)
        · have z := V.int.inj (of_decide_eq_true z)
          have : (((x :: ys).length : Nat) : Int) = ys.length + 1 := by
            rw [List.length_cons]
            omega
          omega
        refine ⟨_, rfl, a, _, 0, x, rfl, rfl, ha, at_of (z := 0) (j := 0) rfl rfl, ?_⟩
        refine ⟨_, rfl, _, .ty "str", _, .type "str", _, rfl, .ty _, ix.ty, kit_str d0, _, rfl, ?_⟩
        refine ite2 (fun c => ?_) (fun c => ?_)
        · have c' : d0.isStr = false := by simpa using c
          exact ite2 (fun _ => k0 (by cases d0 <;> first | rfl | (cases c')) _ (Same.refl _)) (fun z => absurd rfl z)
        cases d0 with
        | non => exact absurd rfl c
        | bl b => exact absurd rfl c
        | int b => exact absurd rfl c
        | tup b => exact absurd rfl c
        | str z =>
          cases ix
          cases hp : partsOf z with
          | none =>
            refine ⟨_, rfl, z, _, rfl, rfl, PA.no z hp, _, rfl, ?_⟩
            exact ite2 (fun _ => k0 (by show (match partsOf z with | some ps => decide (ds.length = ps.length) | none => false) = false; rw [hp]) _ (Same.refl _)) (fun z => absurd rfl z)
          | some ps =>
            obtain ⟨t, e, q⟩ := PA.yes z ps hp
            obtain ⟨t', kd, q'⟩ := PA.kd hp
            have sh : shapeB (.tup (.str z :: ds)) = decide (ds.length = ps.length) := by
              show (match partsOf z with | some ps => decide (ds.length = ps.length) | none => false) = _
              rw [hp]
            obtain ⟨pl, zl⟩ := parts_len hp
            refine ⟨_, rfl, z, _, rfl, rfl, e, _, rfl, ?_⟩
            refine ite2 (fun z => nomatch z) (fun _ => ?_)
            refine ⟨_, rfl, a, _, rfl, .inr ha, _, rfl, pd, z, .ref t', rfl, rfl, kd, t', _, rfl, .inr (q' _), _, _, rfl, rfl, rfl, _, rfl, ?_⟩
            have l1 := iys.1
            refine ite2 (fun c => ?_) (fun c => ?_)
            · have c' : ds.length ≠ ps.length := fun y => by
                have c : (!decide (V.int (((V.str z :: ys).length : Nat) : Int) = V.int (1 + ((ps.map V.str).length : Nat)))) = true := c
                rw [List.length_cons, List.length_map, l1, y, decide_eq_true (by rw [show (((ps.length + 1 : Nat)) : Int) = 1 + (ps.length : Int) from by omega])] at c
                cases c
              have h64 : ((((ps.map V.str).length : Nat) : Int)).natAbs < 2 ^ 64 := by
                rw [List.length_map]
                omega
              have a1 := str_add (show Str.empty.length ≤ 0 from Nat.le_refl 0) (show (Str.ofString "a condition ").length ≤ 12 by decide)
              have a2 := str_add a1 zl
              have a3 := str_add a2 (show (Str.ofString " has ").length ≤ 5 by decide)
              have a4 := str_add a3 (int_len h64)
              have a5 := str_add a4 (show (Str.ofString " parts").length ≤ 6 by decide)
              exact ⟨_, rfl, str_fits a1 (by decide), _, rfl, .inl ⟨z, rfl, str_fits zl (by decide), _, rfl, str_fits a2 (by decide), _, rfl, str_fits a3 (by decide), _, rfl, pd, z, .ref t', rfl, rfl, kd, t', _, rfl, .inr (q' _), .inr ⟨_, rfl, int_log h64, _, rfl, str_fits a4 (by decide), _, rfl, str_fits a5 (by decide), k0 (by rw [sh]; exact decide_eq_false c') _ (Same.refl _)⟩⟩⟩
            · have c' : ds.length = ps.length := by
                have c : ¬ (!decide (V.int (((V.str z :: ys).length : Nat) : Int) = V.int (1 + ((ps.map V.str).length : Nat)))) = true := c
                have c2 : V.int (((V.str z :: ys).length : Nat) : Int) = V.int (1 + ((ps.map V.str).length : Nat)) := by
                  simpa using c
                have := V.int.inj c2
                rw [List.length_cons, List.length_map] at this
                omega
              exact k1 (by rw [sh]; exact decide_eq_true c') _ (Same.refl _)
/-- data without None and truths, texts that fit -/
inductive Tame : Dat → Prop where
  | int (i : Int) : Tame (.int i)
  | str {z : Str} (h : z.length ≤ 100000) : Tame (.str z)
  | tup {ds : List Dat} (l : ds.length ≤ 10000) (h : ∀ d ∈ ds, Tame d) : Tame (.tup ds)
theorem Tame.plain {d : Dat} (h : Tame d) : Plain d := by
  cases h with
  | int i => exact ⟨(fun z e => by cases e), (fun b e => by cases e)⟩
  | str h => exact ⟨fun z e => by
      cases e
      exact str_fits h (Nat.le_refl _), (fun b e => by cases e)⟩
  | tup l h => exact ⟨(fun z e => by cases e), (fun b e => by cases e)⟩
abbrev s_check_values_of : Stmt := top 33
abbrev N_check_values_of : List Str := ["kinds", "condition", "kind", "value"]
abbrev P_check_values_of : List Str := ["kinds", "condition"]
theorem sc_check_values_of : FnScope N_check_values_of P_check_values_of (defScope s_check_values_of) := ⟨rfl, rfl, rfl, by decide +kernel, rfl, by decide +kernel, by decide +kernel⟩
def condS : Str := "condition"
/-- the parts of a condition that has no other within -/
def valsB (ks : List Bool) (z : Str) : List Dat → Bool
  | .int i :: vs => (decide (0 ≤ i) && decide (i < ks.length)) && ((!decide (z = "begins") || ks.getD i.toNat false) && vs.all (valB (ks.getD i.toNat false)))
  | [] => true
  | _ => false
theorem parts_ne {z : Str} {ps : List Str} (h : partsOf z = some ps) (ne : z ≠ "all") : 2 ≤ ps.length ∨ ps = [condS] := by
  unfold partsOf partsT at h
  simp only [List.lookup] at h
  repeat' split at h
  all_goals first
    | (cases h
       first
         | exact .inr rfl
         | exact .inl (by decide)
         | (rename_i e
            exact absurd (eq_of_beq e) ne))
    | cases h
def spCkV (K : PySem.W.Frag) (CB : Addr) : Sp := fun vs H Q E => ∃ (kp : Addr) (v : V) (ks : List Bool) (z : Str) (ps : List Str) (ds : List Dat), vs = [.ref kp, v] ∧ SqT K H kp (ks.map kdV) ∧ ks.length ≤ 4 ∧ Is K H v (.tup (.str z :: ds)) ∧ (∀ d ∈ ds, Tame d) ∧ partsOf z = some ps ∧ ds.length = ps.length ∧ condS ∉ ps ∧
  (valsB ks z ds = true → ∀ H', Same H H' → Q .non H') ∧ (valsB ks z ds = false → ∀ H', Same H H' → E (.ref CB) none H')
theorem ok_check_values_of {CB : Addr} (T : Txt mg) (TK : TxtK mg) (XC : ExcN K mg "BadCondition" CB) (D0 : Df K mg "check_values_of" s_check_values_of P_check_values_of) (G_is_column : Fn P w K mg base CX0 1 "is_column" P_is_column (spIsC K)) (G_is_value : Fn P w K mg base CX0 2 "is_value" P_is_value (spIsV K)) : Fn P w K mg base (L2.CX P w) 3 "check_values_of" P_check_values_of (spCkV K CB) := by
  refine D0.okX sc_check_values_of (fun vs H Q E h => ?_) (fun f cdv A outer s H vs Q E hr h => ?_)
  · obtain ⟨kp, v, ks, z, ps, ds, rfl, _⟩ := h
    rfl
  · obtain ⟨kp, v, ks, z, ps, ds, rfl, hkp, k4, iv, tame, hps, hl, nc, k1, k0⟩ := h
    have nd := sc_check_values_of.nd
    refine ⟨_, (pss_cons (ps_if (pt_cmpR op_eq (pe_ix ix_tup (pv 1) pe_int (fun _ _ => rfl)) pe_str (nomark _))
  (pss_one ps_retN)
  pss_nil)
  (pss_cons (ps_if (pt_not (pt_val (pe_c G_is_column (hr.mono (by decide)) pass0 (pa_cons (pv 0) (pa_cons (pe_ix ix_tup (pv 1) pe_int (fun _ _ => rfl)) pa_nil)))))
  (pss_one (ps_raise rfl (takes_of rfl rfl rfl rfl) (pmk_own PySem.F.excBase_ValueError XC.x XC.g XC.k (raises_own XC.b XC.t) rfl)))
  pss_nil)
  (pss_cons (ps_set (i := 2) nd rfl (by first | exact Or.inl rfl | exact Or.inr rfl) (pe_ix ix_tup (pv 0) (pe_ix ix_tup (pv 1) pe_int (fun _ _ => rfl)) (fun _ _ => rfl)))
  (Evl.pss_cut (ps_if (PW.pt (pw_and (pt_cmpR op_eq (pe_ix ix_tup (pv 1) pe_int (fun _ _ => rfl)) pe_str (nomark _)) (pw_and1 (pt_cmpR op_ne (pv 2) (pe_gstr TK.c_WORD) (nomark _)))))
  (pss_one (ps_raise rfl (takes_of rfl rfl rfl rfl) (pmk_own PySem.F.excBase_ValueError XC.x XC.g XC.k (raises_own XC.b XC.t) rfl)))
  pss_nil)
  (pss_one (ps_for (passes_of rfl) rfl (pi_tup (pe_slice sl_tup (pv 1) (po_some pe_int) po_none)) (pg_name (i := 3) nd rfl (by first | exact Or.inl rfl | exact Or.inr rfl))
  (pss_one (ps_if (pt_not (pt_val (pe_c G_is_value (hr.mono (by decide)) pass0 (pa_cons (pv 2) (pa_cons (pv 3) pa_nil)))))
  (pss_one (ps_raise rfl (takes_of rfl rfl rfl rfl) (SkE.pmk_own1 PySem.F.excBase_ValueError XC.x XC.g XC.k (raises_own XC.b XC.t) rfl (pe_joined (.cons pe_str (.cons (pe_fmt (pv 2)) (.cons pe_str .nil)))))))
  pss_nil)))))))), ?_⟩
    obtain ⟨a, xs, rfl, ha, ixs⟩ := is_tup iv
    obtain ⟨x, ys, rfl⟩ : ∃ x ys, xs = x :: ys := by
      cases xs with
      | nil => cases ixs.1
      | cons x ys => exact ⟨x, ys, rfl⟩
    obtain ⟨ix, iys⟩ := ixs.uncons
    cases ix
    refine ⟨_, rfl, a, _, 0, _, rfl, rfl, ha, at_of (z := 0) (j := 0) rfl rfl, rfl, _, rfl, ?_⟩
    refine ite2 (fun c => ?_) (fun c => ?_)
    · have c' : z = "all" := V.str.inj (of_decide_eq_true c)
      subst c'
      have e : ps = [] := by
        have : some ps = some [] := hps.symm.trans (by decide +kernel)
        exact Option.some.inj this
      subst e
      obtain rfl : ds = [] := List.eq_nil_of_length_eq_zero hl
      exact k1 rfl _ (Same.refl _)
    have c' : z ≠ "all" := fun y => c (decide_eq_true (by rw [y]))
    have l2 : 2 ≤ ps.length := by
      rcases parts_ne hps c' with h | h
      · exact h
      · exact absurd (by rw [h]; exact List.mem_cons_self) nc
    obtain ⟨c0, vs, rfl⟩ : ∃ c0 vs, ds = c0 :: vs := by
      cases ds with
      | nil =>
        have : ps.length = 0 := hl.symm
        omega
      | cons c0 vs => exact ⟨c0, vs, rfl⟩
    obtain ⟨y, us, rfl⟩ : ∃ y us, ys = y :: us := by
      cases ys with
      | nil => cases iys.1
      | cons y us => exact ⟨y, us, rfl⟩
    obtain ⟨iy, ius⟩ := iys.uncons
    have tc := tame c0 List.mem_cons_self
    have tv : ∀ d ∈ vs, Tame d := fun d hd => tame d (List.mem_cons_of_mem _ hd)
    refine ⟨_, rfl, _, rfl, a, _, 1, y, rfl, rfl, ha, at_of (z := 1) (j := 1) rfl rfl, kp, y, c0, ks, rfl, hkp, iy, tc.plain, _, rfl, ?_⟩
    refine ite2 (fun c2 => ?_) (fun c2 => ?_)
    · have c3 : colB ks.length c0 = false := by simpa using c2
      refine k0 ?_ _ (Same.refl _)
      cases c0 with
      | int i =>
        have c3 : (decide (0 ≤ i) && decide (i < ks.length)) = false := c3
        show ((decide (0 ≤ i) && decide (i < ks.length)) && _) = false
        rw [c3, Bool.false_and]
      | non => rfl
      | bl b => rfl
      | str b => rfl
      | tup b => rfl
    have c3 : colB ks.length c0 = true := by simpa using c2
    obtain ⟨i, rfl, i0, i1⟩ : ∃ i, c0 = .int i ∧ 0 ≤ i ∧ i < ks.length := by
      cases c0 with
      | int i =>
        have c3 : (decide (0 ≤ i) && decide (i < ks.length)) = true := c3
        obtain ⟨h1, h2⟩ := Bool.and_eq_true_iff.mp c3
        exact ⟨i, rfl, of_decide_eq_true h1, of_decide_eq_true h2⟩
      | non => cases c3
      | bl b => cases c3
      | str b => cases c3
      | tup b => cases c3
    cases iy
    obtain ⟨n, rfl⟩ := Int.eq_ofNat_of_zero_le i0
    obtain ⟨w, hw⟩ : ∃ w, ks[n]? = some w := ⟨_, List.getElem?_eq_getElem (by omega)⟩
    have hgd : ks.getD ((n : Int)).toNat false = w := by
      rw [Int.toNat_natCast, List.getD_eq_getElem?_getD, hw]
      rfl
    have vb : valsB ks z (.int n :: vs) = ((!decide (z = "begins") || w) && vs.all (valB w)) := by
      show ((decide (0 ≤ (n : Int)) && decide ((n : Int) < ks.length)) && ((!decide (z = "begins") || ks.getD ((n : Int)).toNat false) && vs.all (valB (ks.getD ((n : Int)).toNat false)))) = _
      rw [decide_eq_true i0, decide_eq_true i1, hgd, Bool.true_and, Bool.true_and]
    rw [vb] at k1 k0
    refine ⟨_, rfl, _, rfl, a, _, 1, _, rfl, rfl, ha, at_of (z := 1) (j := 1) rfl rfl, kp, _, _, kdV w, rfl, rfl, hkp, at_of (j := n) rfl (by rw [List.getElem?_map, hw]; rfl), ?_⟩
    refine ⟨fun σ H' => σ = [some (.ref kp), some (.ref a), some (kdV w), none] ∧ H' = H ∧ (!decide (z = "begins") || w) = true, ?_, ?_⟩
    · refine ⟨_, rfl, a, _, 0, _, rfl, rfl, ha, at_of (z := 0) (j := 0) rfl rfl, rfl, _, rfl, ?_⟩
      refine ite2 (fun c4 => ?_) (fun c4 => ite2 (fun z => Bool.noConfusion z) (fun _ => ⟨rfl, rfl, ?_⟩))
      · have zb : z = "begins" := V.str.inj (of_decide_eq_true c4)
        refine ⟨_, rfl, (by cases w <;> rfl), _, rfl, ?_⟩
        refine ite2 (fun c5 => ?_) (fun c5 => ⟨rfl, rfl, ?_⟩)
        · have e2 : (!decide (kdV w = V.str "word")) = true := c5
          rw [kd_word] at e2
          refine k0 ?_ _ (Same.refl _)
          rw [decide_eq_true zb, show w = false by simpa using e2]
          rfl
        · have e2 : ¬ (!decide (kdV w = V.str "word")) = true := c5
          rw [kd_word] at e2
          rw [show w = true by simpa using e2, Bool.or_true]
      · have zb : z ≠ "begins" := fun y => c4 (decide_eq_true (by rw [y]))
        rw [decide_eq_false zb]
        rfl
    rintro σ H' ⟨rfl, rfl, good⟩
    rw [good, Bool.true_and] at k1 k0
    have ec : cutV (V.str z :: V.int n :: us) (some 2) none = us := cut_from _ 2
    have hs2 : HT.sIx (V.str z :: V.int n :: us).length 0 (some 2) = 2 := by
      have : HT.sIx (V.str z :: V.int n :: us).length 0 (some ((2 : Nat) : Int)) = _ := HT.sIx_nat ..
      rw [show (some (2 : Int)) = some ((2 : Nat) : Int) from rfl, this, List.length_cons, List.length_cons]
      omega
    refine ⟨_, rfl, _, rfl, a, _, rfl, ha, (fun h => by rw [hs2] at h; exact absurd h.1 (by decide)), fun p np => ?_⟩
    rw [ec]
    have hp0 : (L2.upd H' p (.tup us)) p = some (.tup us) := upd_same
    have sp := Same.upd (o := .tup us) np
    refine ⟨p, rfl, ⟨_, SqT.of hp0⟩, for_it (walk_tup (xs := us)) (fun i σ H1 => (∃ v3, σ = [some (.ref kp), some (.ref a), some (kdV w), v3]) ∧ Same H' H1 ∧ H1 p = some (.tup us) ∧ (vs.take i).all (valB w) = true) ⟨⟨none, rfl⟩, sp, hp0, by rw [List.take_zero]; rfl⟩ (fun _ _ _ _ ⟨_, _, h, _⟩ => SqT.of h) ?_ ?_⟩
    · rintro i x σ H1 H1' hi ⟨⟨v3, rfl⟩, s1, hp1, al⟩ ⟨rfl, e⟩
      have lv := ius.1
      obtain ⟨d, hd⟩ : ∃ d, vs[i]? = some d := ⟨_, List.getElem?_eq_getElem (by omega)⟩
      have dm := List.mem_of_getElem? hd
      refine ⟨_, rfl, _, rfl, w, x, d, rfl, (ius.2 i x d e hd).same s1, (tv d dm).plain, fun H2 s2 => ⟨_, rfl, ?_⟩⟩
      refine ite2 (fun c6 => ?_) (fun c6 => ?_)
      · have c7 : valB w d = false := by simpa using c6
        have zl : (kdS w).length ≤ 6 := by cases w <;> decide
        have a1 := str_add (show Str.empty.length ≤ 0 from Nat.le_refl 0) (show (Str.ofString "a column ").length ≤ 9 by decide)
        have a2 := str_add a1 zl
        have a3 := str_add a2 (show (Str.ofString " takes no such value").length ≤ 20 by decide)
        refine ⟨_, rfl, str_fits a1 (by decide), _, rfl, .inl ⟨kdS w, rfl, str_fits zl (by decide), _, rfl, str_fits a2 (by decide), _, rfl, str_fits a3 (by decide), k0 ?_ _ (s1.trans s2)⟩⟩
        refine List.all_eq_false.mpr ⟨d, dm, ?_⟩
        rw [c7]
        decide
      · have c7 : valB w d = true := by simpa using c6
        refine ⟨⟨_, rfl⟩, s1.trans s2, s2 _ _ hp1, ?_⟩
        rw [List.take_succ, hd, List.all_append, al]
        show (true && (valB w d && true)) = true
        rw [c7]
        rfl
    · rintro σ H1 ⟨⟨v3, rfl⟩, s1, hp1, al⟩
      have lv := ius.1
      rw [lv, List.take_length] at al
      exact k1 al _ s1
abbrev s_many_in : Stmt := top 31
abbrev N_many_in : List Str := ["kinds", "condition", "around", "part"]
abbrev P_many_in : List Str := ["kinds", "condition", "around"]
theorem sc_many_in : FnScope N_many_in P_many_in (defScope s_many_in) := ⟨rfl, rfl, rfl, by decide +kernel, rfl, by decide +kernel, by decide +kernel⟩
/-- how many conditions lie in d; n: how many may lie within one another -/
def manyD (ks : List Bool) : Nat → Dat → Option Nat
  | 0, _ => none
  | n + 1, .tup (.str z :: ds) => match partsOf z with
    | none => none
    | some ps => if ds.length = ps.length then (if condS ∈ ps then (ds.foldr (fun d acc => (manyD ks n d).bind fun a => acc.map fun b => a + b) (some 0)).map fun b => 1 + b else if valsB ks z ds = true then some 1 else none) else none
  | _ + 1, _ => none
/-- what a raising promise says where nothing is raised -/
theorem Fn.calm' {k : Nat} {x : Str} {ps : List Str} {sp : Sp} (F : Fn P w K mg base (L2.CX P w) k x ps sp) : Fn P w K mg base CX0 k x ps (fun vs H Q _ => sp vs H Q fun _ _ _ => False) := by
  obtain ⟨f, fd, G, hm, hk, hb⟩ := F.ex
  exact ⟨f, fd, FnOk.calm G, hm, hk, hb⟩
def spManyG (K : PySem.W.Frag) (n : Nat) : Sp := fun vs H Q _ => ∃ (kp : Addr) (v : V) (ks : List Bool) (d : Dat) (m : Nat), vs = [.ref kp, v, .int (8 - (n : Int))] ∧ SqT K H kp (ks.map kdV) ∧ ks.length ≤ 4 ∧ Is K H v d ∧ Tame d ∧ manyD ks n d = some m ∧ ∀ H', Same H H' → Q (.int (m : Nat)) H'
theorem sum_cast : ∀ ms : List Nat, (ms.map fun (b : Nat) => (b : Int)).sum = ((ms.sum : Nat) : Int)
  | [] => rfl
  | m :: ms => by
    rw [List.map_cons, List.sum_cons, List.sum_cons, sum_cast ms]
    omega
theorem parts_in {z : Str} {ps : List Str} (h : partsOf z = some ps) : inV (V.str "condition") (ps.map V.str) = decide (condS ∈ ps) ∧ (ps.map V.str).all flatV = true := by
  unfold partsOf partsT at h
  simp only [List.lookup] at h
  repeat' split at h
  all_goals first
    | (cases h
       exact ⟨by decide +kernel, by decide +kernel⟩)
    | cases h
theorem folds_some {α : Type} {g : α → Option Nat} : ∀ {ds : List α} {m : Nat}, ds.foldr (fun d acc => (g d).bind fun a => acc.map fun b => a + b) (some 0) = some m → ∃ ms : List Nat, ms.length = ds.length ∧ (∀ (i : Nat) (d : α), ds[i]? = some d → ∃ a, g d = some a ∧ ms[i]? = some a) ∧ ms.sum = m
  | [], m, h => ⟨[], rfl, (fun i d e => by cases e), by
      cases h
      rfl⟩
  | d :: ds, m, h => by
    rw [List.foldr_cons] at h
    cases hg : g d with
    | none =>
      rw [hg] at h
      cases h
    | some a =>
      rw [hg] at h
      cases ha : ds.foldr (fun d acc => (g d).bind fun a => acc.map fun b => a + b) (some 0) with
      | none =>
        rw [ha] at h
        cases h
      | some b =>
        rw [ha] at h
        have h : some (a + b) = some m := h
        obtain ⟨ms, l, e, s⟩ := folds_some ha
        refine ⟨a :: ms, by rw [List.length_cons, List.length_cons, l], fun i x hx => ?_, ?_⟩
        · cases i with
          | zero =>
            cases hx
            exact ⟨a, hg, rfl⟩
          | succ i => exact e i x hx
        · rw [List.sum_cons, s]
          exact Option.some.inj h
theorem ok_manyG {pd : Addr} {es : Array DictEntry} {n0 : Nat} (PA : PartsT K w mg pd es n0) (T : Txt mg) (T4 : Txt4 mg) (TK : TxtK mg) (D0 : Df K mg "many_in" s_many_in P_many_in)
    (G_check_parts : Fn P w K mg base CX0 1 "check_parts" P_check_parts (fun vs H Q _ => spCkP K 0 vs H Q fun _ _ _ => False)) (G_check_values_of : Fn P w K mg base CX0 3 "check_values_of" P_check_values_of (fun vs H Q _ => spCkV K 0 vs H Q fun _ _ _ => False)) : ∀ n, n ≤ 8 → Fn P w K mg base CX0 (4 + n) "many_in" P_many_in (spManyG K n) := by
  have gen : ∀ n, n ≤ 8 → Fn P w K mg base CX0 (3 + n) "many_in" P_many_in (fun vs H Q E => ∃ m, n = m + 1 ∧ spManyG K m vs H Q E) → Fn P w K mg base CX0 (3 + n + 1) "many_in" P_many_in (spManyG K n) := fun n n8 G_many => by
    refine D0.ok sc_many_in (fun vs H Q E h => ?_) (fun f cdv A outer s H vs Q E hr h => ?_)
    · obtain ⟨kp, v, ks, d, m, rfl, _⟩ := h
      rfl
    · obtain ⟨kp, v, ks, d, m, rfl, hkp, k4, iv, tame, hm, k⟩ := h
      have nd := sc_many_in.nd
      have hr1 := hr.mono (show 1 ≤ 3 + n by omega)
      have hr3 := hr.mono (show 3 ≤ 3 + n by omega)
      refine ⟨_, (pss_cons (ps_if (pt_cmpR op_gt (pv 2) (pe_gint TK.c_MOST_AROUND) (nomark _))
  (pss_one ps_never)
  pss_nil)
  (pss_cons (ps_expr (pe_c G_check_parts hr1 pass0 (pa_cons (pv 1) pa_nil)))
  (pss_cons (ps_if (pt_cmpR op_notIn_seq pe_str (pe_ix ix_kdict (pe_glob (v := .ref pd) (by rfl) PA.g rfl) (pe_ix ix_tup (pv 1) pe_int (fun _ _ => rfl)) (fun _ _ => rfl)) (by rfl))
  (pss_cons (ps_expr (pe_c G_check_values_of hr3 pass0 (pa_cons (pv 0) (pa_cons (pv 1) pa_nil))))
  (pss_one (ps_ret pe_int)))
  pss_nil)
  (pss_one (ps_ret (pe_op op_add pe_int (pe_callB (cr_sum rfl) (by rfl) T4.b_sum (by decide +kernel) (pa_cons (pe_lc (own := [("part", 3)]) (g := gName 3) (by rfl) nd  (pi_tup (pe_slice sl_tup (pv 1) (po_some pe_int) po_none)) (blkOk_by (own := [("part", 3)]) (N := N_many_in) (sc := defScope s_many_in) (by decide +kernel)) (fun _ _ _ _ _ => pg_name (i := 3) nd rfl (Or.inl rfl)) (fun _ _ _ _ _ => pts_nil) (fun _ _ _ _ _ => (pe_c G_many hr pass0 (pa_cons (pv 0) (pa_cons (pv 3) (pa_cons (pe_op op_add (pv 2) pe_int) pa_nil)))))) pa_nil)))))))), ?_⟩
      obtain ⟨n, rfl⟩ : ∃ n', n = n' + 1 := by
        cases n with
        | zero => cases hm
        | succ n => exact ⟨n, rfl⟩
      obtain ⟨z, ds, rfl⟩ : ∃ z ds, d = .tup (.str z :: ds) := by
        cases tame with
        | int i => cases hm
        | str h => cases hm
        | @tup ds l h =>
          cases ds with
          | nil => cases hm
          | cons d0 ds =>
            cases d0 with
            | str z => exact ⟨z, ds, rfl⟩
            | non => cases hm
            | bl b => cases hm
            | int b => cases hm
            | tup b => cases hm
      have hm : (match partsOf z with
        | none => none
        | some ps => if ds.length = ps.length then (if condS ∈ ps then (ds.foldr (fun d acc => (manyD ks n d).bind fun a => acc.map fun b => a + b) (some 0)).map fun b => 1 + b else if valsB ks z ds = true then some 1 else none) else none) = some m := hm
      cases hp : partsOf z with
      | none =>
        rw [hp] at hm
        cases hm
      | some ps =>
        rw [hp] at hm
        have hm : (if ds.length = ps.length then (if condS ∈ ps then (ds.foldr (fun d acc => (manyD ks n d).bind fun a => acc.map fun b => a + b) (some 0)).map fun b => 1 + b else if valsB ks z ds = true then some 1 else none) else none) = some m := hm
        by_cases hl : ds.length = ps.length
        · rw [if_pos hl] at hm
          have sh : shapeB (.tup (.str z :: ds)) = true := by
            show (match partsOf z with | some ps => decide (ds.length = ps.length) | none => false) = true
            rw [hp]
            exact decide_eq_true hl
          have td : ∀ d ∈ ds, Tame d := by
            cases tame with
            | tup l h => exact fun d hd => h d (List.mem_cons_of_mem _ hd)
          refine ⟨_, rfl, _, _, rfl, rfl, _, rfl, ?_⟩
          refine ite2 (fun c => ?_) (fun _ => ?_)
          · have c' := of_decide_eq_true c
            omega
          refine ⟨_, rfl, v, _, rfl, iv, fun _ H1 s1 => ?_, fun z => ?_⟩
          · obtain ⟨a, xs, rfl, ha, ixs⟩ := is_tup (iv.same s1)
            obtain ⟨x, ys, rfl⟩ : ∃ x ys, xs = x :: ys := by
              cases xs with
              | nil => cases ixs.1
              | cons x ys => exact ⟨x, ys, rfl⟩
            obtain ⟨ix, iys⟩ := ixs.uncons
            cases ix
            obtain ⟨t', kd, q'⟩ := PA.kd hp
            refine ⟨_, rfl, a, _, 0, _, rfl, rfl, ha, at_of (z := 0) (j := 0) rfl rfl, pd, z, .ref t', rfl, rfl, kd, ?_⟩
            obtain ⟨pin, pfl⟩ := parts_in hp
            refine ⟨t', _, rfl, .inr (q' _), rfl, pfl, _, rfl, ?_⟩
            have hkp1 := s1.seqT hkp
            have iv1 := iv.same s1
            refine ite2 (fun c => ?_) (fun c => ?_)
            · have c : (!inV (V.str "condition") (ps.map V.str)) = true := c
              rw [pin] at c
              have nc : condS ∉ ps := fun y => by
                rw [decide_eq_true y] at c
                cases c
              rw [if_neg nc] at hm
              by_cases vb : valsB ks z ds = true
              · rw [if_pos vb] at hm
                obtain rfl : 1 = m := Option.some.inj hm
                exact ⟨_, rfl, _, rfl, kp, .ref a, ks, z, ps, ds, rfl, hkp1, k4, iv1, td, hp, hl, nc, fun _ H2 s2 => k H2 (s1.trans s2), fun z => absurd vb (by rw [z]; decide)⟩
              · rw [if_neg vb] at hm
                cases hm
            have c : ¬ (!inV (V.str "condition") (ps.map V.str)) = true := c
            rw [pin] at c
            have yc : condS ∈ ps := by simpa using c
            rw [if_pos yc] at hm
            cases hf : ds.foldr (fun d acc => (manyD ks n d).bind fun a => acc.map fun b => a + b) (some 0) with
            | none =>
              rw [hf] at hm
              cases hm
            | some tot =>
              rw [hf] at hm
              obtain rfl : 1 + tot = m := Option.some.inj hm
              obtain ⟨ms, lms, ems, sms⟩ := folds_some hf
              have ec : cutV (V.str z :: ys) (some 1) none = ys := cut_from _ 1
              have hs1 : HT.sIx (V.str z :: ys).length 0 (some 1) = 1 := by
                have : HT.sIx (V.str z :: ys).length 0 (some ((1 : Nat) : Int)) = _ := HT.sIx_nat ..
                rw [show (some (1 : Int)) = some ((1 : Nat) : Int) from rfl, this, List.length_cons]
                omega
              refine ⟨_, rfl, _, rfl, a, _, rfl, ha, (fun h => by rw [hs1] at h; exact absurd h.1 (by decide)), fun p np => ?_⟩
              rw [ec]
              have hp0 : (L2.upd H1 p (.tup ys)) p = some (.tup ys) := upd_same
              have sp := Same.upd (o := .tup ys) np
              have ly := iys.1
              refine ⟨p, rfl, ⟨_, SqT.of hp0⟩, fun D0 nD => ?_⟩
              refine lc_all (walk_tup (xs := ys)) (fun i H' => Same H1 H' ∧ H' p = some (.tup ys) ∧ H' D0 = some (.lst (((ms.take i).map fun (b : Nat) => (b : Int)).map V.int))) ⟨sp.trans (Same.upd nD), Same.upd nD _ _ hp0, by rw [List.take_zero]; exact upd_same⟩ (fun _ _ _ h => SqT.of h.2.1) ?_ ?_
              · rintro i x H2 H2' hi ⟨s2, hp2, hD⟩ ⟨rfl, e⟩
                obtain ⟨d, hd⟩ : ∃ d, ds[i]? = some d := ⟨_, List.getElem?_eq_getElem (by omega)⟩
                obtain ⟨b, hb, eb⟩ := ems i d hd
                have nD1 : H1 D0 = none := by
                  cases e9 : H1 D0 with
                  | none => rfl
                  | some u =>
                    rw [sp _ _ e9] at nD
                    cases nD
                refine ⟨_, rfl, _, rfl, _, rfl, _, _, rfl, rfl, n, rfl, kp, x, ks, d, b, ?_, s2.seqT hkp1, k4, (iys.2 i x d e hd).same s2, td d (List.mem_of_getElem? hd), hb, fun H3 s3 => ⟨_, s3 _ _ hD, ?_, ?_, ?_, ?_⟩⟩
                · show [V.ref kp, x, V.int (8 - ((n + 1 : Nat) : Int) + 1)] = [V.ref kp, x, V.int (8 - (n : Int))]
                  rw [show (8 - ((n + 1 : Nat) : Int) + 1) = 8 - (n : Int) from by omega]
                · have : sizeLine = 16777216 := sizeLine_eq
                  have l5 := List.length_take_le' i ms
                  have l6 := (parts_len hp).1
                  rw [List.length_map, List.length_map]
                  omega
                · exact fun r u e9 => (upd_ne fun y => by
                    rw [y, nD1] at e9
                    cases e9).trans ((s2.trans s3) r u e9)
                · exact (upd_ne fun y => by
                    rw [← y, hp0] at nD
                    cases nD).trans (s3 _ _ hp2)
                · rw [List.take_succ, eb, List.map_append, List.map_append]
                  exact upd_same
              · rintro H2 ⟨s2, hp2, hD⟩
                rw [ly, ← lms, List.take_length] at hD
                refine ⟨D0, _, rfl, SqL.of hD, _, _, rfl, rfl, ?_⟩
                have := k H2 (s1.trans s2)
                rwa [show (((1 + tot : Nat)) : Int) = 1 + (ms.map fun (b : Nat) => (b : Int)).sum from by
                  rw [sum_cast, sms]
                  omega] at this
          · rw [sh] at z
            cases z
        · rw [if_neg hl] at hm
          cases hm
  intro n
  induction n with
  | zero =>
    intro h
    exact gen 0 h (D0.void.imp fun vs H Q E ⟨m, z, _⟩ => by cases z)
  | succ n ih =>
    intro h
    have := gen (n + 1) h (by
      have := ih (by omega)
      rw [show 3 + (n + 1) = 4 + n by omega]
      exact this.imp fun vs H Q E ⟨m, z, hh⟩ => by
        cases z
        exact hh)
    rw [show 4 + (n + 1) = 3 + (n + 1) + 1 by omega]
    exact this
abbrev s_check_condition : Stmt := top 30
abbrev N_check_condition : List Str := ["kinds", "condition"]
abbrev P_check_condition : List Str := ["kinds", "condition"]
theorem sc_check_condition : FnScope N_check_condition P_check_condition (defScope s_check_condition) := ⟨rfl, rfl, rfl, by decide +kernel, rfl, by decide +kernel, by decide +kernel⟩
theorem Cond.tame : ∀ {ks : List Bool} {cd : Cond}, CondOk ks cd → Tame cd.dat
  | _, .all, _ => by
    rw [Cond.dat]
    exact .tup (by decide) fun d hd => by
      rw [List.mem_singleton.mp hd]
      exact .str (by decide)
  | ks, .is c x, h => by
    obtain ⟨w, _, hx⟩ := h
    rw [Cond.dat]
    exact .tup (by show 3 ≤ 10000; decide) fun d hd => by
      simp only [List.mem_cons, List.not_mem_nil, or_false] at hd
      rcases hd with rfl | rfl | rfl
      · exact .str (by decide)
      · exact .int _
      · exact vl_tame hx
  | ks, .less c x, h => by
    obtain ⟨w, _, hx⟩ := h
    rw [Cond.dat]
    exact .tup (by show 3 ≤ 10000; decide) fun d hd => by
      simp only [List.mem_cons, List.not_mem_nil, or_false] at hd
      rcases hd with rfl | rfl | rfl
      · exact .str (by decide)
      · exact .int _
      · exact vl_tame hx
  | ks, .within c x y, h => by
    obtain ⟨w, _, hx, hy⟩ := h
    rw [Cond.dat]
    exact .tup (by show 4 ≤ 10000; decide) fun d hd => by
      simp only [List.mem_cons, List.not_mem_nil, or_false] at hd
      rcases hd with rfl | rfl | rfl | rfl
      · exact .str (by decide)
      · exact .int _
      · exact vl_tame hx
      · exact vl_tame hy
  | ks, .begins c l, h => by
    rw [Cond.dat]
    exact .tup (by show 3 ≤ 10000; decide) fun d hd => by
      simp only [List.mem_cons, List.not_mem_nil, or_false] at hd
      rcases hd with rfl | rfl | rfl
      · exact .str (by decide)
      · exact .int _
      · exact vl_tame (w := true) (x := .wrd l) ⟨rfl, h.2⟩
  | ks, .not a, h => by
    rw [Cond.dat]
    exact .tup (by show 2 ≤ 10000; decide) fun d hd => by
      simp only [List.mem_cons, List.not_mem_nil, or_false] at hd
      rcases hd with rfl | rfl
      · exact .str (by decide)
      · exact Cond.tame (ks := ks) h
  | ks, .and a b, h => by
    rw [Cond.dat]
    exact .tup (by show 3 ≤ 10000; decide) fun d hd => by
      simp only [List.mem_cons, List.not_mem_nil, or_false] at hd
      rcases hd with rfl | rfl | rfl
      · exact .str (by decide)
      · exact Cond.tame (ks := ks) h.1
      · exact Cond.tame (ks := ks) h.2
  | ks, .or a b, h => by
    rw [Cond.dat]
    exact .tup (by show 3 ≤ 10000; decide) fun d hd => by
      simp only [List.mem_cons, List.not_mem_nil, or_false] at hd
      rcases hd with rfl | rfl | rfl
      · exact .str (by decide)
      · exact Cond.tame (ks := ks) h.1
      · exact Cond.tame (ks := ks) h.2
where
  vl_tame : ∀ {w : Bool} {x : Vl}, VlOk w x → Tame x.dat
    | _, .num i, _ => .int i
    | _, .wrd l, h => .str (by rw [S_len]; have := h.2.1; omega)
theorem vl_val {w : Bool} {x : Vl} (h : VlOk w x) : valB w x.dat = true := by
  cases x with
  | num i =>
    obtain ⟨rfl, a, b⟩ := h
    show (!false && decide (-9999 ≤ i ∧ i ≤ 9999)) = true
    rw [decide_eq_true ⟨a, b⟩]
    rfl
  | wrd l =>
    obtain ⟨rfl, a, b⟩ := h
    show (true && (decide ((S l).length ≤ 6) && ltrB l)) = true
    rw [S_len, decide_eq_true a, Bool.true_and, Bool.true_and]
    exact List.all_eq_true.mpr fun c hc => decide_eq_true (b c hc)
theorem many_leaf {ks : List Bool} {z : Str} {ps : List Str} {ds : List Dat} {n : Nat} (hp : partsOf z = some ps) (hl : ds.length = ps.length) (nc : condS ∉ ps) (v : valsB ks z ds = true) : manyD ks (n + 1) (.tup (.str z :: ds)) = some 1 := by
  show (match partsOf z with
    | none => none
    | some ps => if ds.length = ps.length then (if condS ∈ ps then (ds.foldr (fun d acc => (manyD ks n d).bind fun a => acc.map fun b => a + b) (some 0)).map fun b => 1 + b else if valsB ks z ds = true then some 1 else none) else none) = _
  rw [hp]
  show (if ds.length = ps.length then (if condS ∈ ps then _ else if valsB ks z ds = true then some 1 else none) else none) = some 1
  rw [if_pos hl, if_neg nc, if_pos v]
theorem many_node {ks : List Bool} {z : Str} {ps : List Str} {ds : List Dat} {n t : Nat} (hp : partsOf z = some ps) (hl : ds.length = ps.length) (yc : condS ∈ ps) (hf : ds.foldr (fun d acc => (manyD ks n d).bind fun a => acc.map fun b => a + b) (some 0) = some t) : manyD ks (n + 1) (.tup (.str z :: ds)) = some (1 + t) := by
  show (match partsOf z with
    | none => none
    | some ps => if ds.length = ps.length then (if condS ∈ ps then (ds.foldr (fun d acc => (manyD ks n d).bind fun a => acc.map fun b => a + b) (some 0)).map fun b => 1 + b else if valsB ks z ds = true then some 1 else none) else none) = _
  rw [hp]
  show (if ds.length = ps.length then (if condS ∈ ps then (ds.foldr (fun d acc => (manyD ks n d).bind fun a => acc.map fun b => a + b) (some 0)).map fun b => 1 + b else _) else none) = some (1 + t)
  rw [if_pos hl, if_pos yc, hf]
  rfl
theorem vals_leaf {ks : List Bool} {z : Str} {c : Nat} {w : Bool} {vs : List Dat} (hw : ks[c]? = some w) (b : z = "begins" → w = true) (hv : ∀ d ∈ vs, valB w d = true) : valsB ks z (.int c :: vs) = true := by
  have hi := (List.getElem?_eq_some_iff.mp hw).1
  have hgd : ks.getD ((c : Int)).toNat false = w := by
    rw [Int.toNat_natCast, List.getD_eq_getElem?_getD, hw]
    rfl
  show ((decide (0 ≤ (c : Int)) && decide ((c : Int) < ks.length)) && ((!decide (z = "begins") || ks.getD ((c : Int)).toNat false) && vs.all (valB (ks.getD ((c : Int)).toNat false)))) = true
  rw [decide_eq_true (by omega), decide_eq_true (by omega), hgd, List.all_eq_true.mpr hv]
  by_cases e : z = "begins"
  · rw [b e, Bool.or_true]
    rfl
  · rw [decide_eq_false e]
    rfl
theorem many_cond {ks : List Bool} : ∀ {cd : Cond} {n : Nat}, CondOk ks cd → cd.deep < n → manyD ks n cd.dat = some cd.many
  | .all, n + 1, _, _ => by
    rw [Cond.dat]
    exact many_leaf (ps := []) (by decide +kernel) rfl (by decide +kernel) rfl
  | .is c x, n + 1, h, _ => by
    obtain ⟨w, hw, hx⟩ := h
    rw [Cond.dat]
    exact many_leaf (ps := ["column", "value"]) (by decide +kernel) rfl (by decide +kernel) (vals_leaf hw (fun z => absurd z (by decide +kernel)) fun d hd => by
      rw [List.mem_singleton.mp hd]
      exact vl_val hx)
  | .less c x, n + 1, h, _ => by
    obtain ⟨w, hw, hx⟩ := h
    rw [Cond.dat]
    exact many_leaf (ps := ["column", "value"]) (by decide +kernel) rfl (by decide +kernel) (vals_leaf hw (fun z => absurd z (by decide +kernel)) fun d hd => by
      rw [List.mem_singleton.mp hd]
      exact vl_val hx)
  | .within c x y, n + 1, h, _ => by
    obtain ⟨w, hw, hx, hy⟩ := h
    rw [Cond.dat]
    exact many_leaf (ps := ["column", "value", "value"]) (by decide +kernel) rfl (by decide +kernel) (vals_leaf hw (fun z => absurd z (by decide +kernel)) fun d hd => by
      simp only [List.mem_cons, List.not_mem_nil, or_false] at hd
      rcases hd with rfl | rfl
      · exact vl_val hx
      · exact vl_val hy)
  | .begins c l, n + 1, h, _ => by
    rw [Cond.dat]
    exact many_leaf (ps := ["column", "value"]) (by decide +kernel) rfl (by decide +kernel) (vals_leaf h.1 (fun _ => rfl) fun d hd => by
      rw [List.mem_singleton.mp hd]
      exact vl_val (w := true) (x := .wrd l) ⟨rfl, h.2⟩)
  | .not a, n + 1, h, hd => by
    have hd : 1 + a.deep < n + 1 := hd
    rw [Cond.dat]
    have e := many_cond (cd := a) (n := n) h (by omega)
    exact many_node (ps := ["condition"]) (t := a.many) (by decide +kernel) rfl (by decide +kernel) (by
      rw [List.foldr_cons, e]
      rfl)
  | .and a b, n + 1, h, hd => by
    have hd : 1 + max a.deep b.deep < n + 1 := hd
    rw [Cond.dat]
    have e1 := many_cond (cd := a) (n := n) h.1 (by omega)
    have e2 := many_cond (cd := b) (n := n) h.2 (by omega)
    have := many_node (ks := ks) (z := "and") (n := n) (ps := ["condition", "condition"]) (ds := [a.dat, b.dat]) (t := a.many + (b.many + 0)) (by decide +kernel) rfl (by decide +kernel) (by
      rw [List.foldr_cons, List.foldr_cons, e1, e2]
      rfl)
    rw [this]
    show some (1 + (a.many + (b.many + 0))) = some (1 + a.many + b.many)
    congr 1
    omega
  | .or a b, n + 1, h, hd => by
    have hd : 1 + max a.deep b.deep < n + 1 := hd
    rw [Cond.dat]
    have e1 := many_cond (cd := a) (n := n) h.1 (by omega)
    have e2 := many_cond (cd := b) (n := n) h.2 (by omega)
    have := many_node (ks := ks) (z := "or") (n := n) (ps := ["condition", "condition"]) (ds := [a.dat, b.dat]) (t := a.many + (b.many + 0)) (by decide +kernel) rfl (by decide +kernel) (by
      rw [List.foldr_cons, List.foldr_cons, e1, e2]
      rfl)
    rw [this]
    show some (1 + (a.many + (b.many + 0))) = some (1 + a.many + b.many)
    congr 1
    omega
def spCkC (K : PySem.W.Frag) : Sp := fun vs H Q _ => ∃ (kp : Addr) (v : V) (ks : List Bool) (cd : Cond), vs = [.ref kp, v] ∧ SqT K H kp (ks.map kdV) ∧ ks.length ≤ 4 ∧ Is K H v cd.dat ∧ CondOk ks cd ∧ cd.many ≤ 15 ∧ cd.deep ≤ 7 ∧ ∀ H', Same H H' → Q .non H'
theorem ok_check_condition (T : Txt mg) (TK : TxtK mg) (D0 : Df K mg "check_condition" s_check_condition P_check_condition) (G_many_in : Fn P w K mg base CX0 12 "many_in" P_many_in (spManyG K 8)) : Fn P w K mg base CX0 13 "check_condition" P_check_condition (spCkC K) := by
  refine D0.ok sc_check_condition (fun vs H Q E h => ?_) (fun f cdv A outer s H vs Q E hr h => ?_)
  · obtain ⟨kp, v, ks, cd, rfl, _⟩ := h
    rfl
  · obtain ⟨kp, v, ks, cd, rfl, hkp, k4, iv, okc, m15, d7, k⟩ := h
    have nd := sc_check_condition.nd
    refine ⟨_, (pss_one (ps_if (pt_cmpR op_gt (pe_c G_many_in (hr.mono (by decide)) pass0 (pa_cons (pv 0) (pa_cons (pv 1) (pa_cons pe_int pa_nil)))) (pe_gint TK.c_MOST_CONDITIONS) (nomark _))
  (pss_one ps_never)
  pss_nil)), ?_⟩
    refine ⟨_, rfl, _, rfl, kp, v, ks, cd.dat, cd.many, rfl, hkp, k4, iv, Cond.tame okc, many_cond okc (by omega), fun H1 s1 => ⟨_, _, rfl, rfl, _, rfl, ?_⟩⟩
    refine ite2 (fun c => ?_) (fun _ => k H1 s1)
    have c' := of_decide_eq_true c
    omega
end
end K3

set_option Elab.async false
set_option linter.all false
set_option maxRecDepth 100000
set_option maxHeartbeats 4000000
/-! K3R: rules of my own: t.index of ints, the keys of a module's table, set(list of ints) -/
namespace K3
open PySem PySem.Spec PyProof.Rows L2
/-! ### t.index(k) -/
def rTix (K : PySem.W.Frag) : V → List V → Hp → VK → Prop := fun x xs H Q => ∃ (p : Addr) (ns : List Int) (k : Int) (j : Nat), x = .ref p ∧ xs = [.int k] ∧ SqT K H p (ns.map V.int) ∧ ns[j]? = some k ∧ (∀ m, m < j → ns[m]? ≠ some k) ∧ Q (.int (j : Nat)) H
theorem flat_ints (ns : List Int) : (ns.map V.int).all flatV = true := by
  rw [List.all_map]
  exact List.all_eq_true.mpr fun _ _ => rfl
theorem mt_tixI {X : Cx} : MtR X "tuple.index" (rTix X.K) := by
  intro pins s σ H x xs v us Q I rx rs ⟨p, ns, k, j, ex, exs, hq, hy, hno, q⟩
  subst ex exs
  cases rx
  obtain ⟨u, rfl, tk, rfl⟩ := vals1 rs
  obtain ⟨its, r, pl, hz⟩ := I.tuple hq
  obtain ⟨⟨c0, d0, dat, sl⟩, ho, hc, n, hd⟩ := pl
  subst hc hd
  have hlen : its.toArray.size = ns.length := by
    have e := r.length
    rw [List.length_map] at e
    rw [List.size_toArray, e]
  have hjn : j < ns.length := (List.getElem?_eq_some_iff.mp hy).1
  have item : ∀ (m : Nat) (hm : m < its.toArray.size), ∃ y tt, ns[m]? = some y ∧ its.toArray[m] = Value.int y tt := fun m hm => by
    have hm' : m < ns.length := by omega
    obtain ⟨z, hz2, tt, ez⟩ := r.get (i := m) (x := .int ns[m]) (by rw [List.getElem?_map, List.getElem?_eq_getElem hm']; rfl)
    refine ⟨ns[m], tt, List.getElem?_eq_getElem hm', ?_⟩
    have e := (List.getElem?_eq_some_iff.mp hz2).2
    rw [← ez, ← e, List.getElem_toArray]
  have hj : j < its.toArray.size := by omega
  have M := TI.tuple_indexAt p its.toArray n d0 sl (.int k tk) (eqU (.int k)) j hj (by
    obtain ⟨y, tt, e1, e2⟩ := item j hj
    rw [hy] at e1
    rw [e2, ← Option.some.inj e1]
    exact beq_self_eq_true k) (fun m hm hmj => by
    obtain ⟨y, tt, e1, e2⟩ := item m hm
    rw [e2]
    exact beq_eq_false_iff_ne.mpr fun e => hno m hmj (e ▸ e1))
  exact call_meets PySem.F.slot_tuple_index ⟨_, ho, rfl⟩ PySem.F.entry_tuple_index (PySem.F.args_tuple_index_2 _ _) M
    ⟨ho, fun z hz2 => mem_eqAt (x := .int k) ⟨tk, rfl⟩ rfl r (flat_ints ns) z (by rw [← Array.mem_toList_iff] at hz2; exact hz2), ⟨.int (j : Nat), H, I.tok _, ⟨_, rfl⟩, q⟩⟩
/-! ### for k in TABLE, TABLE a dict of the module with text keys -/
/-- at d: a written dict whose keys are ks, in turn -/
structure KKeys (K : PySem.W.Frag) (w : World) (d : Addr) (ks : List Str) : Prop where
  ex : ∃ (es : Array DictEntry) (n : Nat), KDict K w d es n ∧ es.toList.map He.keyOf = He.keysIn w.params ks
def Itks (ks : List Str) : It := ⟨fun i _ => i < ks.length, fun i H x H' => H' = H ∧ ∃ z, ks[i]? = some z ∧ x = .str z, fun i _ => ks.length ≤ i⟩
theorem walk_ks {ks : List Str} : Walk (Itks ks) ks.length (fun _ => True) (fun i H x H' => H' = H ∧ ∃ z, ks[i]? = some z ∧ x = .str z) :=
  ⟨fun _ _ hi _ => hi, fun _ _ => Nat.le_refl _, fun _ _ _ _ _ _ y => y⟩
theorem key_at {w : World} {l : List DictEntry} {ks : List Str} (h : l.map He.keyOf = He.keysIn w.params ks) {i : Nat} {z : Str} (hz : ks[i]? = some z) : ∃ en t, l[i]? = some en ∧ en.key = Value.str z t := by
  have e : (l.map He.keyOf)[i]? = (He.keysIn w.params ks)[i]? := by rw [h]
  unfold He.keysIn at e
  rw [List.getElem?_map, List.getElem?_map, hz] at e
  cases q : l[i]? with
  | none =>
    rw [q] at e
    cases e
  | some en =>
    rw [q] at e
    have e2 : He.keyOf en = some (z, PyData.keyHash w.params z) := Option.some.inj e
    unfold He.keyOf at e2
    split at e2
    · rename_i x t hk
      have e3 := (Prod.mk.inj (Option.some.inj e2)).1
      exact ⟨en, t, rfl, by rw [hk, e3]⟩
    · cases e2
theorem turn_ks {P : Program} {w : World} {K : PySem.W.Frag} {tg : Expr} {d : Addr} {es : Array DictEntry} {n : Nat} {ks : List Str} (it : Addr) (D : K.lookup d = some ⟨.type "dict", none, .dict es n, #[]⟩) (hk : es.toList.map He.keyOf = He.keysIn w.params ks) :
    Turn P w K tg (Itks ks) [it] it (fun i h => h.IsKeyIter it d i ks.length n) := by
  have hsz : es.size = ks.length := by
    have e := congrArg List.length hk
    unfold He.keysIn at e
    rw [List.length_map, List.length_map, Array.length_toList] at e
    exact e
  have one : it ∈ [it] := List.mem_singleton.mpr rfl
  refine ⟨one, fun i h st b hb => ?_, fun i h h' ⟨oi, e, r⟩ k => ⟨oi, k it one oi e, r⟩, ?_, ?_, fun A i s Q E st h => wpAny_pyIter_keyiter st h⟩
  · obtain rfl := List.mem_singleton.mp hb
    obtain ⟨oi, e, _, dd⟩ := st
    exact ⟨oi, e, fun v z => by rw [dd] at z; cases z⟩
  · intro X hP hw hK hc i pins s σ H E I hf st hi
    subst hP hw hK
    obtain ⟨f0, f1, f2, f3, f4, f5⟩ := hf it one
    have hi' : i < ks.length := hi
    obtain ⟨en, t, hen, ek⟩ := key_at hk (List.getElem?_eq_getElem hi')
    refine next_key_item st (I.kIn _ _ D) rfl hsz (by rw [← hen, Array.getElem?_toList]) fun h' st' sb => ?_
    have I1 := I.turned (t' := s.toks) (h' := h') (fun b ob hb e => (sb.2 b hb).trans e) f0 f1 f3 f4 f5
    obtain ⟨oi, e, c, dd⟩ := id st'
    exact ⟨en.key, rfl, go_of (s := { s with heap := h' }) e c dd (by decide) ⟨.str ks[i], H, I1, ⟨t, ek⟩, ⟨rfl, _, List.getElem?_eq_getElem hi', rfl⟩, st', fun b hb => (hf b hb).1⟩⟩
  · intro X hP hw hK hc i pins s σ H E I hf st hi
    subst hP hw hK
    obtain ⟨f0, f1, f2, f3, f4, f5⟩ := hf it one
    exact next_key_end (I.ok.hd hc) st (I.kIn _ _ D) rfl hsz hi fun h' eb => ⟨rfl, I.turned (t' := s.toks) (fun b ob hb e => eb b ob hb e) f0 f1 f3 f4 f5⟩
def iKs (K : PySem.W.Frag) (w : World) (td : TE) : TI := fun σ H R => td σ H fun x H1 => ∃ d ks, x = .ref d ∧ KKeys K w d ks ∧ R (Itks ks) H1
theorem pi_ks {X : Cx} {tg e : Expr} {td : TE} (he : PE X e td) : PI X tg e (iKs X.K X.w td) := by
  refine ⟨fun pins s σ H R I h => ?_⟩
  refine thn (he.run pins s σ H _ I h) fun u s1 ⟨x, H1, I1, rx, d, ks, ex, KS, q⟩ => ?_
  subst ex
  obtain rfl : u = Value.ref d := rx
  obtain ⟨es, n, D, hk⟩ := KS.ex
  have hsz : es.size = ks.length := by
    have e := congrArg List.length hk
    unfold He.keysIn at e
    rw [List.length_map, List.length_map, Array.length_toList] at e
    exact e
  refine iter_keys D.low (I1.kIn _ _ D.at_) ⟨rfl, rfl, rfl⟩ rfl (pi_one (tk := s1.toks) I1 _ (turn_ks _ D.at_ hk) ⟨_, Heap.get?_push_size _ rfl, rfl, ?_⟩ q)
  rw [hsz] <;> rfl
/-! ### set(list of ints) -/
/-- the set just laid -/
def set0 (w : World) : Obj := { cls := .type "set", dict := none, data := .set #[] 0 (.fresh 0 0 (!w.params.followText "set-order")) }
/-- what set.__init__ leaves -/
def SetMade (w : World) (s : Shared) (ns : List Int) (r : Value) (s2 : Shared) : Prop := r = .none ∧ ∃ h' tk c, s2 = { s with heap := h', toks := tk } ∧ SetR w h' s.heap.objs.size (fun j => decide (j ∈ ns)) c ∧ c ≤ ns.length ∧ ∀ b o, s.heap.get? b = some o → h'.get? b = some o
section
variable {P : Program} {w : World} {A : Around} {E : Value → Shared → Prop} {s : Shared}
theorem call_setL {l : Addr} {items : Array Value} (ns : List Int) {Q : Value → Shared → Prop} (hh : A.handled = none) (hl : s.heap.IsList l items) (hit : IntsAre items.toList ns) (hb : ns.length + 1 < scanBound)
    (h : ∀ (h' : Heap) (tk c : Nat), SetR w h' s.heap.objs.size (fun j => decide (j ∈ ns)) c → c ≤ ns.length → (∀ b o, s.heap.get? b = some o → h'.get? b = some o) → Q (.ref s.heap.objs.size) { s with heap := h', toks := tk }) :
    wpAny (model P w) A (call (.type "set") [.ref l]) Q E s := by
  have hn : items.size = ns.length := by
    have q := IntsAre.length hit
    rwa [Array.length_toList] at q
  obtain ⟨c, tl, hmro⟩ := F.called_set.mro
  have hmade := F.called_set.made
  have hsub := F.called_set.sub
  have h1 := F.called_set.notType
  have h2 := F.called_set.canCreate
  have hct := F.typeCall_set_1 (.ref l)
  refine wpAny_call (codeAny_of_tree ?_)
  show wpAny _ _ (callAny (.type "set") _) _ _ _
  refine wpAny_pure ⟨Code.quiet_builtin _ (by decide +kernel), codeAny_builtin F.entry_type_call ?_⟩
  rw [Around.under_plain (weight_type_call_type "set" [.ref l] []) rfl]
  repeat (any_goals (first | assumption | wp_step))
  refine codeAny_mono (code_set_led1 (.ref l) (E := E) (Q₁ := fun u s1 => u = .ref s.heap.objs.size ∧ s1 = { s with heap := s.heap.push (set0 w) }) ⟨rfl, rfl⟩) fun r s1 hr => ?_
  have hS : (s.heap.push (set0 w)).get? s.heap.objs.size = some (set0 w) := Heap.get?_push_size _ rfl
  have hT : Shared.TypeIs { s with heap := s.heap.push (set0 w) } (.ref s.heap.objs.size) "set" := ⟨_, hS, rfl⟩
  rcases r with er | fl
  · exact hr
  cases fl with
  | next => exact hr.elim
  | brk => exact hr.elim
  | cont => exact hr.elim
  | ret u =>
    obtain ⟨rfl, rfl⟩ := hr
    have hli := F.called_set.init.lookup
    have hbi := F.called_set.init.bind (.ref s.heap.objs.size)
    repeat (any_goals (first | assumption | wp_step))
    refine codeAny_mono (codeAny_call_builtin (R := wants (SetMade w s ns) E) F.called_set.init.plain F.entry_set_init (check_set_init_1 hT ?_)) fun r2 s2 hr2 => ?_
    · obtain ⟨⟨ocls, odict, odata, oslots⟩, hol, hcl, nl, hdl⟩ := hl
      simp only at hcl hdl
      subst hcl hdl
      have hlS : l < s.heap.objs.size := Heap.lt_size hol
      have hl1 : (s.heap.push (set0 w)).IsList l items := ⟨_, Heap.get?_push_of_some _ hol, rfl, nl, rfl⟩
      have hol' : (s.heap.push (set0 w)).get? l = some ⟨.type "list", odict, .seq items nl, oslots⟩ := Heap.get?_push_of_some _ hol
      have hsls := F.sub_list_set
      have hslf := F.sub_list_frozenset
      have hne : (Value.type "list" == Value.type "dict") = false := by decide
      unfold Builtin.«set.__init__» noKeywords Builtin.Frozenset.updateFrom
      generalize hPI : pyIter = PI
      wp_walk
      subst hPI
      have hz : (s.heap.push (set0 w)).objs.size = s.heap.objs.size + 1 := Heap.size_push ..
      have ne1 : l ≠ (s.heap.push (set0 w)).objs.size := Nat.ne_of_lt (by rw [hz]; exact Nat.lt_succ_of_lt hlS)
      have ne2 : s.heap.objs.size ∉ [(s.heap.push (set0 w)).objs.size, l] := fun z => by
        rcases List.mem_cons.mp z with z | z
        · rw [hz] at z
          exact absurd z (Nat.ne_of_lt (Nat.lt_succ_self _))
        · exact absurd (List.mem_singleton.mp z).symm (Nat.ne_of_lt hlS)
      have hd3 : A.in1.in1.in1.handled = none := by simp [hh]
      have hval : ∀ (i : Nat) (v : Value), items[i]? = some v → ∃ k t, ns[i]? = some k ∧ v = .int k t := fun i v hv => by
        have hi : i < ns.length := hn ▸ (Array.getElem?_eq_some_iff.mp hv).1
        obtain ⟨t, e⟩ := IntsAre.int_at hit i v (by rw [Array.getElem?_toList]; exact hv)
        exact ⟨ns[i], t, List.getElem?_eq_getElem hi, by rw [e, List.getD_eq_getElem?_getD, List.getElem?_eq_getElem hi]; rfl⟩
      refine iter_any hl1 fun s2 e2 st2 _ => ?_
      subst e2
      refine wpAny_bind (wpAny_runValue (set_update_ints (Walks.list hd3 _ l ne1 items).toS s.heap.objs.size ne2 ns hn hb hval items.size 0 _ (Nat.sub_zero _) (Nat.zero_le _) st2
        ⟨0, Nat.le_refl 0, setR_new_at (Heap.get?_push_of_some _ hS)⟩ fun s3 c3 mv hc3 R3 => ?_))
      obtain ⟨h3, g3, d3, t3, o3⟩ := s3
      obtain rfl : g3 = s.gens := mv.gens
      obtain rfl : d3 = s.drawn := mv.drawn
      obtain rfl : o3 = s.os := mv.os
      show wpAny _ _ (pure ()) _ _ _
      refine wpAny_pure ?_
      show wpAny _ _ (ret Value.none) _ _ _
      refine wpAny_pure ⟨rfl, h3, t3, c3, rfl, R3, hn ▸ hc3, fun b o e => ?_⟩
      have hb0 : b < s.heap.objs.size := Heap.lt_size e
      refine mv.heap b o (fun z => ?_) (Heap.get?_push_of_some _ (Heap.get?_push_of_some _ e))
      rcases List.mem_cons.mp z with z | z
      · exact absurd z (Nat.ne_of_lt hb0)
      · have z2 := List.mem_singleton.mp z
        rw [hz] at z2
        exact absurd z2 (Nat.ne_of_lt (Nat.lt_succ_of_lt hb0))
    · rcases r2 with er | fl
      · exact hr2
      cases fl with
      | next => exact hr2.elim
      | brk => exact hr2.elim
      | cont => exact hr2.elim
      | ret u =>
        obtain ⟨rfl, h', tk, cc, rfl, hS', hc', hk'⟩ := hr2
        repeat (any_goals (first | assumption | wp_step))
        exact h _ _ _ hS' hc' hk'
end
def rSetL' (K : PySem.W.Frag) (w : World) : List V → Hp → VK → Prop := fun vs H Q => ∃ (a : Addr) (ns : List Int), vs = [V.ref a] ∧ SqL K H a (ns.map V.int) ∧ ns.length < 64 ∧
  ∀ (p : Addr) (n : Nat) (ks : List Int), H p = none → n ≤ ns.length → ks.Nodup → (∀ k, k ∈ ks ↔ k ∈ ns) → ks.length = n → Q (.ref p) (upd H p (SetO w p (fun j => decide (j ∈ ns)) n))
theorem cr_setL {X : Cx} (hc : X.calm = true) : CallR X (.type "set") (rSetL' X.K X.w) := by
  intro pins s σ H vs us Q I r ⟨a, ns, ev, hq, h64, q⟩
  subst ev
  rw [Vals.ref1 r]
  obtain ⟨its, rv, pl, hz⟩ := I.list hq
  refine call_setL (P := X.prog) ns (I.ok.hd hc) pl.isList (by simpa using ints_of_vals rv) (by unfold scanBound; omega) fun h' tk c R hcn k => ?_
  have J : Inv X pins σ (upd H s.heap.objs.size (SetO X.w s.heap.objs.size (fun j => decide (j ∈ ns)) c)) { s with heap := h', toks := tk } := I.laid k (Nat.le_refl _) (setO_new R)
  obtain ⟨o, es, ep, t, ho, hex, hd, g, nd, hm, hb, hf, hn, hr, hl⟩ := R
  refine ⟨.ref _, _, J, rfl, q _ c (es.toList.map keyOf) (I.hok.fresh (Nat.le_refl _)) hcn nd (fun k => ?_) (by rw [List.length_map, Array.length_toList, hn])⟩
  rw [← hm k, decide_eq_true_eq]
/-- len of a set -/
theorem cr_lenSet {X : Cx} : CallR X (.builtin "len") (fun vs H Q => ∃ (a : Addr) (S : Int → Bool) (n : Nat), vs = [V.ref a] ∧ H a = some (SetO X.w a S n) ∧ n < 64 ∧ Q (.int (n : Nat)) H) := by
  intro pins s σ H vs us Q I r ⟨a, S, n, ev, ha, h64, q⟩
  subst ev
  rw [Vals.ref1 r]
  obtain ⟨o, es, ep, t, ho, hex, hd, g, nd, hm, hb, hf, hn, hr, hl⟩ := setO_get I ha
  exact call_len_set ho hex hd hf (by rw [hn]; omega) ⟨.int (n : Nat), H, I.tok _, ⟨_, by rw [hn]⟩, q⟩
end K3

set_option Elab.async false
set_option linter.all false
set_option maxRecDepth 100000
set_option maxHeartbeats 4000000
/-! KPt: PARTS, a dict of tuples of texts, told by the head: put `partsB K (He.ga K "PARTS")` into exL, the table (fun K => He.ga K "PARTS", partsK) into tabL -/
namespace K3
open PySem PySem.Spec PyProof.Rows L2
def partsK : List Str := ["all", "is", "less", "within", "begins", "not", "and", "or"]
theorem partsK_eq : partsT.map Prod.fst = partsK := rfl
def strB : List Str → List Value → Bool
  | [], [] => true
  | z :: zs, .str y _ :: us => decide (y = z) && strB zs us
  | _, _ => false
theorem strB_vals : ∀ {zs : List Str} {us : List Value}, strB zs us = true → Vals (zs.map V.str) us
  | [], [], _ => .nil
  | z :: zs, .str y t :: us, h => by
    have h : (decide (y = z) && strB zs us) = true := h
    obtain ⟨h1, h2⟩ := Bool.and_eq_true_iff.mp h
    obtain rfl := of_decide_eq_true h1
    exact .cons ⟨t, rfl⟩ (strB_vals h2)
def partB (K : PySem.W.Frag) (d : Addr) (q : Str × List Str) : Bool := match PySem.W.nsIn K d q.1 with
  | some (some (.ref t)) => (match K.lookup t with
    | some ⟨.type c, _, .seq its _, _⟩ => decide (c = "tuple") && (decide (its.size ≤ 100) && strB q.2 its.toList)
    | _ => false)
  | _ => false
def partsB (K : PySem.W.Frag) (d : Addr) : Bool := partsT.all (partB K d)
theorem partB_ok {K : PySem.W.Frag} {d : Addr} {q : Str × List Str} (h : partB K d q = true) : ∃ t, PySem.W.nsIn K d q.1 = some (some (.ref t)) ∧ ∀ H : Hp, SqT K H t (q.2.map V.str) := by
  unfold partB at h
  split at h
  · rename_i t e
    split at h
    · rename_i c dd its n sl e2
      obtain ⟨h1, h⟩ := Bool.and_eq_true_iff.mp h
      obtain ⟨h2, h3⟩ := Bool.and_eq_true_iff.mp h
      obtain rfl := of_decide_eq_true h1
      exact ⟨t, e, fun H => .inr ⟨_, its, n, e2, rfl, rfl, by
        have := of_decide_eq_true h2
        have : sizeLine = 16777216 := sizeLine_eq
        omega, strB_vals h3⟩⟩
    · cases h
  · cases h
theorem lookup_mem {z : Str} {ps : List Str} : ∀ {l : List (Str × List Str)}, l.lookup z = some ps → (z, ps) ∈ l
  | [], h => by cases h
  | (a, b) :: l, h => by
    rw [List.lookup_cons] at h
    split at h
    · rename_i e
      cases h
      rw [eq_of_beq e]
      exact List.mem_cons_self
    · exact List.mem_cons_of_mem _ (lookup_mem h)
theorem lookup_none {z : Str} : ∀ {l : List (Str × List Str)}, l.lookup z = none → ∀ q ∈ l, q.1 ≠ z
  | [], _, q, hq => by cases hq
  | (a, b) :: l, h, q, hq => by
    rw [List.lookup_cons] at h
    split at h
    · cases h
    · rename_i e
      rcases List.mem_cons.mp hq with rfl | hq
      · intro y
        have y : a = z := y
        rw [y, beq_self_eq_true] at e
        cases e
      · exact lookup_none h q hq
theorem parts_of {K : PySem.W.Frag} {w : World} {mg : Str → Option Value} {d : Addr} (g : mg "PARTS" = some (.ref d)) (k : KKeys K w d partsK) (h : partsB K d = true) : ∃ es n, PartsT K w mg d es n := by
  obtain ⟨es, n, D, hk⟩ := k.ex
  refine ⟨es, n, g, D, fun z hz => ?_, fun z ps hp => ?_⟩
  · have hn := lookup_none hz
    have keys : ∀ e ∈ es.toList, ∃ x t, e.key = Value.str x t ∧ x ∈ partsK := fun e he => by
      have m : He.keyOf e ∈ He.keysIn w.params partsK := hk ▸ List.mem_map_of_mem he
      unfold He.keysIn at m
      obtain ⟨x, hx, ex⟩ := List.mem_map.mp m
      unfold He.keyOf at ex
      split at ex
      · rename_i y t e1
        have := Option.some.inj ex
        have e2 : x = y := congrArg Prod.fst this
        exact ⟨y, t, e1, e2 ▸ hx⟩
      · cases ex
    unfold PySem.W.nsIn
    rw [D.at_]
    show (match es.toList.find? (·.key.isStr z) with
      | some e => some (some e.val)
      | none => if es.toList.any (·.refKey) then none else some none) = some none
    have f1 : es.toList.find? (·.key.isStr z) = none := by
      rw [List.find?_eq_none]
      intro e he hs
      obtain ⟨x, t, e1, hx⟩ := keys e he
      have hs : e.key.isStr z = true := hs
      rw [e1] at hs
      have e3 : x = z := eq_of_beq (show (x == z) = true from hs)
      rw [← partsK_eq] at hx
      obtain ⟨q, hq, e4⟩ := List.mem_map.mp hx
      exact hn q hq (e4.trans e3)
    have f2 : es.toList.any (·.refKey) = false := by
      rw [List.any_eq_false]
      intro e he hs
      obtain ⟨x, t, e1, hx⟩ := keys e he
      have hs : e.refKey = true := hs
      unfold DictEntry.refKey at hs
      rw [e1] at hs
      cases hs
    rw [f1, f2]
    rfl
  · exact partB_ok (List.all_eq_true.mp h (z, ps) (lookup_mem hp))
end K3

set_option Elab.async false
set_option linter.all false
set_option maxRecDepth 100000
/-! KRc: an exception that a call in a comprehension's element lets out (pe_lcX). Own work. -/
namespace K3
open PySem PySem.Spec PyProof.Rows L2

/-- the block's context when calls in the element may raise: what a call's exception is -/
abbrev blkX (X : Cx) (E : XK) (s : Shared) (H : Hp) (scope : Scope) (cenv : Env) (fp : List Addr) : Cx :=
  (X.blk s H scope cenv fp).wish fun u s' => ∃ pins σ H1 s1, Inv (X.blk s H scope cenv fp) pins σ H1 s1 ∧ CX X.prog X.w X.stack H1 s1 E u s'

theorem passes_blk {X : Cx} {E : XK} {s : Shared} {H : Hp} {scope : Scope} {cenv : Env} {fp : List Addr} : Passes (CX X.prog X.w) (blkX X E s H scope cenv fp) E :=
  fun pins σ H1 s1 e s' I c => ⟨pins, σ, H1, s1, I.unwish, c⟩

theorem frames_but {B B' h h' : Heap} (hB : ∀ b, B.get? b = none → B'.get? b = none) (k : ∀ b o, (∀ vs, o.data ≠ .fields vs) → B.get? b = none → h.get? b = some o → ∃ o', h'.get? b = some o' ∧ ∀ vs, o'.data ≠ .fields vs) :
    ∀ {l : List Env}, h.FunFrames B l → h'.FunFrames B' l
  | [], _ => trivial
  | env :: l, hl => by
    obtain ⟨hk, ⟨L, o, hf, hn, ho, hd⟩, hr⟩ := hl
    obtain ⟨o', e', d'⟩ := k L o hd hn ho
    exact ⟨hk, ⟨L, o', hf, hB _ hn, e', d'⟩, frames_but hB k hr⟩

section
variable {X : Cx} {pins : List (Addr × Obj)} {σ : L2.St} {H : Hp} {s s' : Shared} {E : XK} {W : WX} {u : Value} {ce : Env} {m : Str → Option Value}
theorem comp_out (I : Inv X pins σ H s) (tk : Takes X W) (hW : ∀ c d σ H, E c d H → W c d σ H) (hst : X.stack = X.env :: X.outer) (hf : X.env.frame = some X.env.locals)
    (hC : FpOk X pins H ce.locals) (hcf : ce.frame = X.env.frame) (hns : s.heap.Ns ce.locals m) (hfs : ce.locals ∉ frs X.stack) (cx : CX X.prog X.w X.stack H s E u s') :
    notedBy (model X.prog X.w) X.A ce (CompFails (model X.prog X.w) X.A X.xe ce) u s' := by
  have fr : X.A.frames = some (X.env :: X.outer) := by rw [I.ok.frames, hst]
  have cx2 : s'.heap.Ns ce.locals m ∧ CX X.prog X.w X.stack H s (fun c d H' => E c d H' ∧ H' ce.locals = none) u s' := by
    obtain ⟨a, B, H', cls, d, eu, fl, hok, ub, na, os, ag, hE⟩ := cx
    obtain ⟨oC, es, ep, hoC, r⟩ := hns
    exact ⟨⟨oC, es, ep, fl.1 _ _ (ub.keep _ _ hoC hC.1 hfs), r⟩, a, B, H', cls, d, eu, fl, hok, ub, na, os, ag, hE, ub.free _ _ hoC hC.1⟩
  obtain ⟨ns1, cx2⟩ := cx2
  obtain ⟨a, B, sI, pins2, σ2, H2, cls, d, rfl, I2, nb, up, sky, na, os, ag, w, hn2⟩ :=
    XE.of_call (W := fun c d σ H' => W c d σ H' ∧ H' ce.locals = none) I (fun c d H' z => ⟨hW c d σ H' z.1, z.2⟩) cx2
  have key : ∀ h1, HandSPX.HeldZ B (X.env :: X.outer) a (Zc cls d) X.env.locals h1 → s'.heap.UpToSlots h1 → CompFails (model X.prog X.w) X.A X.xe ce (.ref a) { s' with heap := h1 } := by
    intro h1 hh up1
    have ns2 : h1.Ns ce.locals m := up1.ns ns1
    refine ⟨m, ns2, fun h2 m2 nsA sb => ?_⟩
    obtain ⟨hB, hBa, hfrs, oe, vs, T, oT, ts, he, hz, hd, hv, hT0, hTe, hT, hdT, h3⟩ := hh
    have nd : ∀ {b : Addr} {o : Obj} {vs : Array Value}, h1.get? b = some o → o.data = .fields vs → b ≠ ce.locals := fun {b o vs} q1 q2 z => by
      obtain ⟨o2, es, ep, q3, q4, _⟩ := ns2
      rw [z, q3] at q1; cases q1
      rw [q4] at q2; cases q2
    have gone : (PySem.W.hideAll B [ce.locals]).get? ce.locals = none := PySem.W.hideAll_none _ List.mem_cons_self
    have stay : (PySem.W.hideAll B [ce.locals]).StaysIn h2 := fun b o q => by
      have ne : b ≠ ce.locals := fun z => by rw [z, gone] at q; cases q
      exact (sb.2 b ne).trans (hB b o (PySem.W.of_hideAll _ q))
    have nun : ∀ {b : Addr}, B.get? b = none → (PySem.W.hideAll B [ce.locals]).get? b = none := fun {b} q => by
      cases z : (PySem.W.hideAll B [ce.locals]).get? b with
      | none => rfl
      | some o => rw [PySem.W.of_hideAll _ z] at q; cases q
    have ffr : h2.FunFrames (PySem.W.hideAll B [ce.locals]) (X.env :: X.outer) := frames_but (fun b => nun) (fun b o hdo _ ho => by
      by_cases z : b = ce.locals
      · obtain ⟨o3, es3, ep3, q3, q4, _⟩ := nsA
        rw [z]
        exact ⟨o3, q3, fun vs y => by rw [q4] at y; cases y⟩
      · exact ⟨o, (sb.2 b z).trans ho, hdo⟩) hfrs
    have eh : h2.get? a = some oe := (sb.2 a (nd he hd)).trans he
    unfold PySem.passOn
    refine wpAny_bind (wpAny_field eh hd hv ?_)
    rw [if_neg (by simp)]
    refine wpAny_bind ?_
    rw [hcf, hf]
    refine HandSPX.setFlight_anyZ (Z := Zc cls d) stay ffr ⟨oe, vs, T, oT, ts, eh, hz, hd, hv, nun hT0, hTe, (sb.2 T (nd hT hdT)).trans hT, hdT, h3⟩ fun h4 st4 ff4 tr4 up4 => wpAny_throw ?_
    have fC := hC
    refine tk _ _ ⟨a, PySem.W.hideAll B [ce.locals], { sI with heap := PySem.W.hideAll sI.heap [ce.locals] }, [], σ2, H2, cls, d, rfl, ?_, fun b o q nf => ?_, fun b o q nfd => ?_, .inr (.inr ⟨st4, nun hBa, by rw [hst]; exact ff4, tr4⟩), na, os, ag, w⟩
    · have I3 : Inv X [] σ2 H2 sI := Inv.unpinned (pins := []) (pl := pins2) I2
      refine I3.turned (t' := sI.toks) (it := ce.locals) (fun b o ne q => PySem.W.hideAll_get _ q fun z => ne (List.mem_singleton.mp z)) hn2 fC.2.1 fC.2.2.2.1 fC.2.2.2.2.1 fun p hp => fC.2.2.2.2.2 p ?_
      rw [List.append_nil] at hp
      exact List.mem_append_left _ hp
    · have ne : b ≠ ce.locals := fun z => by
        rw [z, show (PySem.W.hideAll sI.heap [ce.locals]).get? ce.locals = none from PySem.W.hideAll_none _ List.mem_cons_self] at q; cases q
      exact PySem.W.hideAll_get _ (nb b o (PySem.W.of_hideAll _ q) nf) fun z => ne (List.mem_singleton.mp z)
    · have ne : b ≠ ce.locals := fun z => by
        rw [z, show (PySem.W.hideAll sI.heap [ce.locals]).get? ce.locals = none from PySem.W.hideAll_none _ List.mem_cons_self] at q; cases q
      obtain ⟨sl1, e1⟩ := up b o (PySem.W.of_hideAll _ q) nfd
      obtain ⟨sl2, e2⟩ := up1 b _ e1 nfd
      obtain ⟨sl4, e4⟩ := up4 b _ ((sb.2 b ne).trans e2) nfd
      exact ⟨sl4, e4⟩
  show wpAny _ X.A (noteFrame (.ref a) ce) _ _ s'
  rw [noteFrame_env _ hcf]
  rw [hst] at sky
  rcases sky with ⟨q1, q2, q3, oe, vs, q4, q5, q6, q7⟩ | q | q
  · exact HandSPX.look_newZ Zc.steady fr q3 hf q4 q1 q2 q6 q7 q5 key
  · exact HandSPX.looks_onZ Zc.steady fr hf q key
  · exact HandSPX.againZ hf q.2.2.2 (key _ q (Heap.UpToSlots.refl _))
end

section
variable {X : Cx} {W : WX} {E : XK}
/-- [elt for target in iter if ..] whose element's calls may raise -/
theorem pe_lcX {elt tg iter : Expr} {ifs : List Expr} {scope : Scope} {own : List (Str × Nat)} {pos : Pos} {wi : TI} {g : TG} {tt : TT} {te : TE} (calm : X.calm = true) (nd : X.N.Nodup)
    (hst : X.stack = X.env :: X.outer) (hf : X.env.frame = some X.env.locals) (tk : Takes X W) (hW : ∀ c d σ H, E c d H → W c d σ H) (hi : PI X tg iter wi) (ok : BlkOk X.N X.env.scope scope own)
    (pgs : ∀ s H C cl fp, PG (X.blk s H scope (compEnvC scope cl C X.env) fp) tg g) (pts : ∀ s H C cl fp, PTs (X.blk s H scope (compEnvC scope cl C X.env) fp) ifs tt)
    (pes : ∀ s H C cl fp, PE (blkX X E s H scope (compEnvC scope cl C X.env) fp) elt te) (plain : ∀ x, foldedSetIterable iter X.env x = pure x := by intro _; rfl) :
    PE X (.ListComp elt [⟨tg, iter, ifs, 0⟩] scope pos) (tLc wi g tt te (own.map (·.2))) := by
  refine ⟨fun pins s σ H Q I want => ?_⟩
  rw [eval_ListComp]
  have caught : ∀ y ∈ scope.names, y.2 = .free → ∃ c, X.env.cells.lookup y.1 = some c := fun y hy e => (ok.free y hy e).elim (fun k => I.ok.has _ (.inl k)) fun k => I.ok.has _ (.inr k)
  refine comprehension_at (use := none) rfl plain (closure_ok caught) ok.kind (fun y hy e => (ok.uniq y hy).trans (by rw [e])) (thn (hi.run pins s σ H _ I want) fun _ s1 came => thn came fun itv s2 there => ?_)
  obtain ⟨it, fp, tn, J, Ha, rfl, Ia, T, first, fpa, want⟩ := there
  refine wpAny_newObj_type (newEnv_comp ?_) (Nat.zero_le sizeLine)
  -- the new list D, the block C
  obtain ⟨D, eD⟩ : ∃ D, s2.heap.objs.size = D := ⟨_, rfl⟩
  have freeD : Ha D = none := Ia.hok.fresh (Nat.le_of_eq eD)
  obtain ⟨Wt, ⟨m0, wt0⟩, turns⟩ := want D freeD
  obtain ⟨sb, esb⟩ : ∃ sb : Shared, ({ s2 with heap := s2.heap.push { cls := .type "list", data := .seq ([] : List Value).toArray } } : Shared) = sb := ⟨_, rfl⟩
  rw [eD, esb]
  have heapb : sb.heap = s2.heap.push { cls := .type "list", data := .seq ([] : List Value).toArray } := by rw [← esb]
  have Ib : Inv X pins σ (upd Ha D (.lst [])) sb := by
    subst esb; subst eD
    exact Ia.laid (t' := s2.toks) (fun b o q => Heap.get?_push_of_some _ q) (Nat.le_refl _) ⟨Nat.zero_le _, [], 0, .nil, Heap.get?_push_size _ rfl⟩
  have old : ∀ b ∈ fp, b < s2.heap.objs.size := fun b hb => let ⟨_, q, _⟩ := T.obj _ _ first b hb; Heap.lt_size q
  have fpb : ∀ b ∈ fp, FpOk X pins (upd Ha D (.lst [])) b ∧ b < sb.heap.objs.size := fun b hb =>
    ⟨⟨(upd_ne (fun z => Nat.lt_irrefl D (by have w := old b hb; rw [eD, z] at w; exact w))).trans (fpa b hb).1, (fpa b hb).2⟩, by rw [heapb, Heap.size_push]; exact Nat.lt_succ_of_lt (old b hb)⟩
  have Ic := block_start Ib ok nd fpb
  have tn3 : tn 0 (pushCells (sb.heap.push { cls := .type "dict", data := .dict #[] }) scope.names) :=
    T.keep _ _ _ first fun b _ o q => pushCells_keeps _ _ _ _ (Heap.get?_push_of_some _ (by rw [heapb]; exact Heap.get?_push_of_some _ q))
  have bg := pgs sb (upd Ha D (.lst [])) sb.heap.objs.size (cellsFrom (sb.heap.objs.size + 1) scope.names (cloFrom X.env.cells scope.names [])) fp
  have bt := pts sb (upd Ha D (.lst [])) sb.heap.objs.size (cellsFrom (sb.heap.objs.size + 1) scope.names (cloFrom X.env.cells scope.names [])) fp
  have be := pes sb (upd Ha D (.lst [])) sb.heap.objs.size (cellsFrom (sb.heap.objs.size + 1) scope.names (cloFrom X.env.cells scope.names [])) fp
  show codeAny _ _ (.compStart (.ListComp elt [⟨tg, iter, ifs, 0⟩] scope pos) 0 (.ref it) (.ref D) (compEnvC scope (cellsFrom (sb.heap.objs.size + 1) scope.names (cloFrom X.env.cells scope.names [])) sb.heap.objs.size X.env))
    (compEnds (model X.prog X.w) X.A X.xe none (EP X pins σ Q) (.ref D) (compEnvC scope (cellsFrom (sb.heap.objs.size + 1) scope.names (cloFrom X.env.cells scope.names [])) sb.heap.objs.size X.env)) _
  have frm : (compEnvC scope (cellsFrom (sb.heap.objs.size + 1) scope.names (cloFrom X.env.cells scope.names [])) sb.heap.objs.size X.env).frame = X.env.frame := rfl
  have loc : (compEnvC scope (cellsFrom (sb.heap.objs.size + 1) scope.names (cloFrom X.env.cells scope.names [])) sb.heap.objs.size X.env).locals = sb.heap.objs.size := rfl
  generalize compEnvC scope (cellsFrom (sb.heap.objs.size + 1) scope.names (cloFrom X.env.cells scope.names [])) sb.heap.objs.size X.env = ce at Ic bg bt be frm loc ⊢
  have none0 : ∀ b ∈ fp, (upd Ha D (.lst [])) b = none := fun b hb => (fpb b hb).1.1
  generalize upd Ha D (.lst []) = Hb at Ib Ic bg bt be wt0 none0 fpb
  obtain ⟨sc, esc⟩ : ∃ sc : Shared, ({ sb with heap := pushCells (sb.heap.push { cls := .type "dict", data := .dict #[] }) scope.names } : Shared) = sc := ⟨_, rfl⟩
  rw [esc] at Ic ⊢
  have tnc : tn 0 sc.heap := by rw [← esc]; exact tn3
  have fps : ∀ {σ' : L2.St} {H' : Hp} {s' : Shared}, Inv (X.blk sb Hb scope ce fp) [] σ' H' s' → (∀ b ∈ fp, H' b = none) → ∀ b ∈ fp, FpOk (X.blk sb Hb scope ce fp) [] H' b := fun I' non b hb =>
    ⟨non b hb, (I'.ok.exf b hb).1, I'.ok.exfs b hb, .inl hb, fun x c q => (I'.ok.exf b hb).2 x c q, fun p hp => nomatch (show p ∈ ([] : List (Addr × Obj)) from hp)⟩
  -- a state of the block is one of the def
  have back : ∀ {pl : List (Addr × Obj)} {σ' : L2.St} {H' : Hp} {s' : Shared}, Inv (X.blk sb Hb scope ce fp) pl σ' H' s' → Inv X pins σ H' s' ∧ (∃ m, s'.heap.Ns ce.locals m) ∧ FpOk X pins H' ce.locals := fun I' => by
    refine ⟨Ib.call' (ch := fp) I'.os I'.base I'.hok I'.bare fun b hb => ?_, ?_, ?_⟩
    · obtain ⟨_, q1, _, q3, q4, q5⟩ := (fpb b hb).1
      exact ⟨q3, q1, q4, q5⟩
    · obtain ⟨m, q, _⟩ := I'.loc
      exact ⟨m, q⟩
    · exact Ib.fpOk (Nat.le_of_eq loc.symm) I'.free
  have notFr : ce.locals ∉ frs X.stack := fun z => by
    rcases List.mem_cons.mp (Ib.stkSub _ z) with q | q
    · exact Nat.lt_irrefl _ (Nat.lt_of_lt_of_le Ib.lt (Nat.le_of_eq (loc.symm.trans q)))
    · exact Ib.nofs (Nat.le_of_eq loc.symm) q
  have loop : codeAny (model X.prog X.w) X.A (.compLoop (.ListComp elt [⟨tg, iter, ifs, 0⟩] scope pos) 0 (.ref it) (.ref D) ce) (compEnds (model X.prog X.w) X.A X.xe none (EP X pins σ Q) (.ref D) ce) sc := by
    refine compLoop_any (fun n s' => ∃ i H', Inv (X.blk sb Hb scope ce fp) [] (wipe σ (own.map (·.2))) H' s' ∧ tn i s'.heap ∧ (∀ b ∈ fp, H' b = none) ∧ Wt i n H') ?_ m0 ⟨0, Hb, Ic, tnc, none0, wt0⟩
    rintro n t1 ⟨i, H1, I1, tn1, non1, wt1⟩
    rcases turns i n H1 wt1 with ⟨ends, fine⟩ | ⟨goes, Nx, next, step⟩
    · refine thnF (T.done (X.blk sb Hb scope ce fp) rfl rfl rfl calm i [] t1 _ H1 (fun _ _ => False) I1 (fps I1 non1) tn1 ends) fun r t2 ⟨er, I2⟩ => ?_
      subst er
      obtain ⟨J2, ⟨m, ns⟩, fC⟩ := back I2
      refine ⟨m, ns, fun h'' sm => ?_⟩
      obtain ⟨c0, c1, _, c3, c4, c5⟩ := fC
      exact ⟨.ref D, H1, J2.turned (t' := t2.toks) (fun b o ne q => (sm.2 b ne).trans q) c0 c1 c3 c4 c5, rfl, fine⟩
    · refine thnF (T.item (X.blk sb Hb scope ce fp) rfl rfl rfl calm i [] t1 _ H1 (fun _ _ => False) I1 (fps I1 non1) tn1 goes) fun r t2 ⟨y, er, go2⟩ => ?_
      subst er
      refine thnF go2 fun _ t3 ⟨x, H3, I3, rx, yl, tn3', non3⟩ => ?_
      refine thnF (bg.run _ t3 _ H3 x y _ (I3.pinned (fps I3 non3) (T.obj _ _ tn3')) rx (step x H3 yl)) fun _ t4 ⟨σ4, H4, I4, same, go4⟩ => ?_
      refine thnF (bt.run _ t4 σ4 H4 _ I4 go4) fun b t5 ⟨H5, I5, go5⟩ => ?_
      have again : ∀ {t : Shared} {H' : Hp}, Inv (X.blk sb Hb scope ce fp) ([] ++ pinsAt fp t3.heap) σ4 H' t → Nx H' → ∃ k, k < n ∧ ∃ i H', Inv (X.blk sb Hb scope ce fp) [] (wipe σ (own.map (·.2))) H' t ∧ tn i t.heap ∧ (∀ b ∈ fp, H' b = none) ∧ Wt i k H' := fun {t H'} I' nx => by
        obtain ⟨k, lt, wk⟩ := next H' nx
        have kept : ∀ b ∈ fp, ∀ o, t3.heap.get? b = some o → t.heap.get? b = some o ∧ H' b = none := fun b hb o q => by
          obtain ⟨p1, p2, _⟩ := I'.pin (b, o) (List.mem_append_right _ (List.mem_append_right _ (mem_pinsAt hb q)))
          exact ⟨p1, p2⟩
        refine ⟨k, lt, i + 1, H', (I'.unpinned (pins := [])).weak (by rw [← same, wipe_length]) (fun j v q => (wipe_some (by rw [same]; exact q)).1), T.keep _ _ _ tn3' fun b hb o q => (kept b hb o q).1, fun b hb => ?_, wk⟩
        obtain ⟨o, q, _⟩ := T.obj _ _ tn3' b hb
        exact (kept b hb o q).2
      cases b with
      | false => exact again I5 go5
      | true =>
        refine wpAny_mono (be.run _ t5 σ4 H5 _ (I5.wish _) go5) (fun z t6 ⟨yv, H6, I6, r6, acc, q6, z6, nx⟩ => ?_) fun u t6 ⟨pl, σ6, H6, s6, I6, cx⟩ => ?_
        · exact app_ok (X := X.blk sb Hb scope ce fp) I6.unwish q6 z6 r6 fun t7 I7 => again I7 nx
        · obtain ⟨J6, ⟨m, ns⟩, fC⟩ := back I6
          exact comp_out J6 tk hW hst hf fC frm ns notFr cx
  exact codeAny_compStart_list loop (T.self X.A 0 _ _ _ tnc loop)
end
end K3

set_option Elab.async false
set_option linter.all false
set_option maxRecDepth 100000
set_option maxHeartbeats 4000000
/-! KMn: conditions judged by the program, refused ones too -/
namespace K3
open PySem PySem.Spec PyProof.Rows L2 SX
theorem folds_fill {α : Type} {g : α → Option Nat} : ∀ {ds : List α}, (∀ d ∈ ds, g d ≠ none) → ∃ m, ds.foldr (fun d acc => (g d).bind fun a => acc.map fun b => a + b) (some 0) = some m
  | [], _ => ⟨0, rfl⟩
  | d :: ds, h => by
    obtain ⟨m, e⟩ := folds_fill (ds := ds) fun x hx => h x (List.mem_cons_of_mem _ hx)
    cases hg : g d with
    | none => exact absurd hg (h d List.mem_cons_self)
    | some a => exact ⟨a + m, by rw [List.foldr_cons, e, hg]; rfl⟩
theorem folds_gap {α : Type} {g : α → Option Nat} : ∀ {ds : List α} {d : α}, d ∈ ds → g d = none → ds.foldr (fun d acc => (g d).bind fun a => acc.map fun b => a + b) (some 0) = none
  | x :: ds, d, h, e => by
    rw [List.foldr_cons]
    rcases List.mem_cons.mp h with rfl | h
    · rw [e]
      rfl
    · rw [folds_gap h e]
      cases g x <;> rfl
section
variable {P : Program} {w : World} {K : PySem.W.Frag} {mg : Str → Option Value} {base : Heap}
def spManyX (K : PySem.W.Frag) (CB : Addr) (n : Nat) : Sp := fun vs H Q E => ∃ (kp : Addr) (v : V) (ks : List Bool) (d : Dat), vs = [.ref kp, v, .int (8 - (n : Int))] ∧ SqT K H kp (ks.map kdV) ∧ ks.length ≤ 4 ∧ Is K H v d ∧ Tame d ∧
  (∀ m, manyD ks n d = some m → ∀ H', Same H H' → Q (.int (m : Nat)) H') ∧ (manyD ks n d = none → ∀ H', Same H H' → E (.ref CB) none H')
theorem ok_manyX {pd : Addr} {es : Array DictEntry} {n0 : Nat} {CB : Addr} (PA : PartsT K w mg pd es n0) (T : Txt mg) (T4 : Txt4 mg) (TK : TxtK mg) (XC : ExcN K mg "BadCondition" CB) (D0 : Df K mg "many_in" s_many_in P_many_in)
    (G_check_parts : Fn P w K mg base (L2.CX P w) 1 "check_parts" P_check_parts (spCkP K CB)) (G_check_values_of : Fn P w K mg base (L2.CX P w) 3 "check_values_of" P_check_values_of (spCkV K CB)) : ∀ n, n ≤ 8 → Fn P w K mg base (L2.CX P w) (4 + n) "many_in" P_many_in (spManyX K CB n) := by
  have gen : ∀ n, n ≤ 8 → Fn P w K mg base (L2.CX P w) (3 + n) "many_in" P_many_in (fun vs H Q E => ∃ m, n = m + 1 ∧ spManyX K CB m vs H Q E) → Fn P w K mg base (L2.CX P w) (3 + n + 1) "many_in" P_many_in (spManyX K CB n) := fun n n8 G_many => by
    refine D0.okX sc_many_in (fun vs H Q E h => ?_) (fun f cdv A outer s H vs Q E hr h => ?_)
    · obtain ⟨kp, v, ks, d, rfl, _⟩ := h
      rfl
    · obtain ⟨kp, v, ks, d, rfl, hkp, k4, iv, tame, k, kE⟩ := h
      have nd := sc_many_in.nd
      have hr1 := hr.mono (show 1 ≤ 3 + n by omega)
      have hr3 := hr.mono (show 3 ≤ 3 + n by omega)
      refine ⟨_, (pss_cons (ps_if (pt_cmpR op_gt (pv 2) (pe_gint TK.c_MOST_AROUND) (nomark _))
  (pss_one (ps_raise rfl (takes_of rfl rfl rfl rfl) (SkE.pmk_own1 PySem.F.excBase_ValueError XC.x XC.g XC.k (raises_own XC.b XC.t) rfl (pe_joined (.cons pe_str (.cons (pe_fmt (pe_gint TK.c_MOST_AROUND)) (.cons pe_str .nil)))))))
  pss_nil)
  (pss_cons (ps_expr (pe_c (E := E) G_check_parts hr1 (passes_at (fun σ => passAt (takes_of rfl rfl rfl rfl) σ)) (pa_cons (pv 1) pa_nil)))
  (pss_cons (ps_if (pt_cmpR op_notIn_seq pe_str (pe_ix ix_kdict (pe_glob (v := .ref pd) (by rfl) PA.g rfl) (pe_ix ix_tup (pv 1) pe_int (fun _ _ => rfl)) (fun _ _ => rfl)) (by rfl))
  (pss_cons (ps_expr (pe_c (E := E) G_check_values_of hr3 (passes_at (fun σ => passAt (takes_of rfl rfl rfl rfl) σ)) (pa_cons (pv 0) (pa_cons (pv 1) pa_nil))))
  (pss_one (ps_ret pe_int)))
  pss_nil)
  (pss_one (ps_ret (pe_op op_add pe_int (pe_callB (cr_sum rfl) (by rfl) T4.b_sum (by decide +kernel) (pa_cons (pe_lcX (E := E) (own := [("part", 3)]) (g := gName 3) (by rfl) nd rfl rfl (takes_of rfl rfl rfl rfl) (fun _ _ _ _ z => z) (pi_tup (pe_slice sl_tup (pv 1) (po_some pe_int) po_none)) (blkOk_by (own := [("part", 3)]) (N := N_many_in) (sc := defScope s_many_in) (by decide +kernel)) (fun _ _ _ _ _ => pg_name (i := 3) nd rfl (Or.inl rfl)) (fun _ _ _ _ _ => pts_nil) (fun _ _ _ _ _ => (pe_c (E := E) G_many hr passes_blk (pa_cons (pv 0) (pa_cons (pv 3) (pa_cons (pe_op op_add (pv 2) pe_int) pa_nil)))))) pa_nil)))))))), ?_⟩
      have hlog : (7 : Int).natAbs < 2 ^ 64 := by decide
      refine ⟨_, rfl, _, _, rfl, rfl, _, rfl, ?_⟩
      refine ite2 (fun c => ?_) (fun c => ?_)
      · have c' := of_decide_eq_true c
        have n0 : n = 0 := by omega
        subst n0
        have a1 := str_add (show Str.empty.length ≤ 0 from Nat.le_refl 0) (show (Str.ofString "a condition lies within at most ").length ≤ 33 by decide)
        have a2 := str_add a1 (int_len hlog)
        have a3 := str_add a2 (show (Str.ofString " others").length ≤ 8 by decide)
        exact ⟨_, rfl, str_fits a1 (by decide), .inr ⟨_, rfl, int_log hlog, _, rfl, str_fits a2 (by decide), _, rfl, str_fits a3 (by decide), kE rfl _ (Same.refl _)⟩⟩
      obtain ⟨n, rfl⟩ : ∃ n', n = n' + 1 := by
        cases n with
        | zero => exact absurd (decide_eq_true (by omega)) c
        | succ n => exact ⟨n, rfl⟩
      refine ⟨_, rfl, v, d, rfl, iv, fun sh H1 s1 => ?_, fun sh H1 s1 => kE ?_ _ s1⟩
      rotate_left
      · cases tame with
        | int i => rfl
        | str h => rfl
        | @tup ds l h =>
          cases ds with
          | nil => rfl
          | cons d0 ds =>
            cases d0 with
            | str z =>
              have sh : (match partsOf z with | some ps => decide (ds.length = ps.length) | none => false) = false := sh
              show (match partsOf z with | none => none | some ps => if ds.length = ps.length then _ else none) = none
              cases hp : partsOf z with
              | none => rfl
              | some ps =>
                rw [hp] at sh
                have sh : ¬ ds.length = ps.length := of_decide_eq_false sh
                show (if ds.length = ps.length then _ else none) = none
                rw [if_neg sh]
            | non => rfl
            | bl b => rfl
            | int b => rfl
            | tup b => rfl
      obtain ⟨z, ds, ps, rfl, hp, hl⟩ : ∃ z ds ps, d = .tup (.str z :: ds) ∧ partsOf z = some ps ∧ ds.length = ps.length := by
        cases tame with
        | int i => cases sh
        | str h => cases sh
        | @tup ds l h =>
          cases ds with
          | nil => cases sh
          | cons d0 ds =>
            cases d0 with
            | str z =>
              have sh : (match partsOf z with | some ps => decide (ds.length = ps.length) | none => false) = true := sh
              cases hp : partsOf z with
              | none =>
                rw [hp] at sh
                cases sh
              | some ps =>
                rw [hp] at sh
                exact ⟨z, ds, ps, rfl, hp, of_decide_eq_true sh⟩
            | non => cases sh
            | bl b => cases sh
            | int b => cases sh
            | tup b => cases sh
      have td : ∀ d ∈ ds, Tame d := by
        cases tame with
        | tup l h => exact fun d hd => h d (List.mem_cons_of_mem _ hd)
      have hmm : manyD ks (n + 1) (.tup (.str z :: ds)) = (if condS ∈ ps then (ds.foldr (fun d acc => (manyD ks n d).bind fun a => acc.map fun b => a + b) (some 0)).map fun b => 1 + b else if valsB ks z ds = true then some 1 else none) := by
        show (match partsOf z with
          | none => none
          | some ps => if ds.length = ps.length then (if condS ∈ ps then (ds.foldr (fun d acc => (manyD ks n d).bind fun a => acc.map fun b => a + b) (some 0)).map fun b => 1 + b else if valsB ks z ds = true then some 1 else none) else none) = _
        rw [hp]
        show (if ds.length = ps.length then _ else none) = _
        rw [if_pos hl]
      obtain ⟨a, xs, rfl, ha, ixs⟩ := is_tup (iv.same s1)
      obtain ⟨x, ys, rfl⟩ : ∃ x ys, xs = x :: ys := by
        cases xs with
        | nil => cases ixs.1
        | cons x ys => exact ⟨x, ys, rfl⟩
      obtain ⟨ix, iys⟩ := ixs.uncons
      cases ix
      obtain ⟨t', kd, q'⟩ := PA.kd hp
      refine ⟨_, rfl, a, _, 0, _, rfl, rfl, ha, at_of (z := 0) (j := 0) rfl rfl, pd, z, .ref t', rfl, rfl, kd, ?_⟩
      obtain ⟨pin, pfl⟩ := parts_in hp
      refine ⟨t', _, rfl, .inr (q' _), rfl, pfl, _, rfl, ?_⟩
      have hkp1 := s1.seqT hkp
      have iv1 := iv.same s1
      refine ite2 (fun c => ?_) (fun c => ?_)
      · have c : (!inV (V.str "condition") (ps.map V.str)) = true := c
        rw [pin] at c
        have nc : condS ∉ ps := fun y => by
          rw [decide_eq_true y] at c
          cases c
        rw [if_neg nc] at hmm
        refine ⟨_, rfl, _, rfl, kp, .ref a, ks, z, ps, ds, rfl, hkp1, k4, iv1, td, hp, hl, nc, fun vb H2 s2 => k 1 ?_ H2 (s1.trans s2), fun vb H2 s2 => kE ?_ H2 (s1.trans s2)⟩
        · rw [hmm, if_pos vb]
        · rw [hmm, vb]
          rfl
      have c : ¬ (!inV (V.str "condition") (ps.map V.str)) = true := c
      rw [pin] at c
      have yc : condS ∈ ps := by simpa using c
      rw [if_pos yc] at hmm
      have ec : cutV (V.str z :: ys) (some 1) none = ys := cut_from _ 1
      have hs1 : HT.sIx (V.str z :: ys).length 0 (some 1) = 1 := by
        have : HT.sIx (V.str z :: ys).length 0 (some ((1 : Nat) : Int)) = _ := HT.sIx_nat ..
        rw [show (some (1 : Int)) = some ((1 : Nat) : Int) from rfl, this, List.length_cons]
        omega
      refine ⟨_, rfl, _, rfl, a, _, rfl, ha, (fun h => by rw [hs1] at h; exact absurd h.1 (by decide)), fun p np => ?_⟩
      rw [ec]
      have hp0 : (L2.upd H1 p (.tup ys)) p = some (.tup ys) := upd_same
      have sp := Same.upd (o := .tup ys) np
      have ly := iys.1
      refine ⟨p, rfl, ⟨_, SqT.of hp0⟩, fun D0 nD => ?_⟩
      refine lc_all (walk_tup (xs := ys)) (fun i H' => Same H1 H' ∧ H' p = some (.tup ys) ∧ (∀ (j : Nat) (d : Dat), j < i → ds[j]? = some d → manyD ks n d ≠ none) ∧
        H' D0 = some (.lst ((((ds.take i).map fun d => (manyD ks n d).getD 0).map fun (b : Nat) => (b : Int)).map V.int))) ⟨sp.trans (Same.upd nD), Same.upd nD _ _ hp0, fun j _ z => absurd z (Nat.not_lt_zero j), by rw [List.take_zero]; exact upd_same⟩ (fun _ _ _ h => SqT.of h.2.1) ?_ ?_
      · rintro i x H2 H2' hi ⟨s2, hp2, gone, hD⟩ ⟨rfl, e⟩
        obtain ⟨d, hd⟩ : ∃ d, ds[i]? = some d := ⟨_, List.getElem?_eq_getElem (by omega)⟩
        have nD1 : H1 D0 = none := by
          cases e9 : H1 D0 with
          | none => rfl
          | some u =>
            rw [sp _ _ e9] at nD
            cases nD
        refine ⟨_, rfl, _, rfl, _, rfl, _, _, rfl, rfl, n, rfl, kp, x, ks, d, ?_, s2.seqT hkp1, k4, (iys.2 i x d e hd).same s2, td d (List.mem_of_getElem? hd), fun b hb H3 s3 => ⟨_, s3 _ _ hD, ?_, ?_, ?_, ?_, ?_⟩, fun hb H3 s3 => kE ?_ H3 (s1.trans (s2.trans s3))⟩
        · show [V.ref kp, x, V.int (8 - ((n + 1 : Nat) : Int) + 1)] = [V.ref kp, x, V.int (8 - (n : Int))]
          rw [show (8 - ((n + 1 : Nat) : Int) + 1) = 8 - (n : Int) from by omega]
        · have : sizeLine = 16777216 := sizeLine_eq
          have l5 := List.length_take_le' i ds
          have l6 := (parts_len hp).1
          rw [List.length_map, List.length_map, List.length_map]
          omega
        · exact fun r u e9 => (upd_ne fun y => by
            rw [y, nD1] at e9
            cases e9).trans ((s2.trans s3) r u e9)
        · exact (upd_ne fun y => by
            rw [← y, hp0] at nD
            cases nD).trans (s3 _ _ hp2)
        · intro j d' hj hd'
          rcases Nat.lt_succ_iff_lt_or_eq.mp hj with h | rfl
          · exact gone j d' h hd'
          · rw [hd] at hd'
            cases hd'
            rw [hb]
            exact fun z => by cases z
        · rw [List.take_succ, hd, List.map_append, List.map_append, List.map_append]
          show L2.upd H3 D0 _ D0 = some (HO.lst (_ ++ [V.int (((manyD ks n d).getD 0 : Nat) : Int)]))
          rw [hb]
          exact upd_same
        · rw [hmm, folds_gap (List.mem_of_getElem? hd) hb]
          rfl
      · rintro H2 ⟨s2, hp2, gone, hD⟩
        obtain ⟨tot, hf⟩ := folds_fill (g := manyD ks n) (ds := ds) fun d hd => by
          obtain ⟨j, hj⟩ := List.getElem?_of_mem hd
          have := (List.getElem?_eq_some_iff.mp hj).1
          exact gone j d (by omega) hj
        rw [hf] at hmm
        obtain ⟨ms, lms, ems, sms⟩ := folds_some hf
        have eq : ((ds.take ys.length).map fun d => (manyD ks n d).getD 0) = ms := by
          rw [ly, List.take_length]
          refine List.ext_getElem? fun i => ?_
          rw [List.getElem?_map]
          cases hd : ds[i]? with
          | none =>
            have := List.getElem?_eq_none_iff.mp hd
            rw [List.getElem?_eq_none (by omega)]
            rfl
          | some d =>
            obtain ⟨b, e1, e2⟩ := ems i d hd
            rw [e2]
            show some ((manyD ks n d).getD 0) = some b
            rw [e1]
            rfl
        rw [eq] at hD
        refine ⟨D0, _, rfl, SqL.of hD, _, _, rfl, rfl, ?_⟩
        have := k (1 + tot) (by rw [hmm]; rfl) H2 (s1.trans s2)
        rwa [show (((1 + tot : Nat)) : Int) = 1 + (ms.map fun (b : Nat) => (b : Int)).sum from by
          rw [sum_cast, sms]
          omega] at this
  intro n
  induction n with
  | zero =>
    intro h
    exact gen 0 h (D0.void.imp fun vs H Q E ⟨m, z, _⟩ => by cases z)
  | succ n ih =>
    intro h
    have := gen (n + 1) h (by
      have := ih (by omega)
      rw [show 3 + (n + 1) = 4 + n by omega]
      exact this.imp fun vs H Q E ⟨m, z, hh⟩ => by
        cases z
        exact hh)
    rw [show 4 + (n + 1) = 3 + (n + 1) + 1 by omega]
    exact this
def goodD (ks : List Bool) (d : Dat) : Bool := match manyD ks 8 d with | some m => decide (m ≤ 15) | none => false
def spCkCX (K : PySem.W.Frag) (CB : Addr) : Sp := fun vs H Q E => ∃ (kp : Addr) (v : V) (ks : List Bool) (d : Dat), vs = [.ref kp, v] ∧ SqT K H kp (ks.map kdV) ∧ ks.length ≤ 4 ∧ Is K H v d ∧ Tame d ∧
  (goodD ks d = true → ∀ H', Same H H' → Q .non H') ∧ (goodD ks d = false → ∀ H', Same H H' → E (.ref CB) none H')
theorem ok_check_conditionX {CB : Addr} (T : Txt mg) (TK : TxtK mg) (XC : ExcN K mg "BadCondition" CB) (D0 : Df K mg "check_condition" s_check_condition P_check_condition) (G_many_in : Fn P w K mg base (L2.CX P w) 12 "many_in" P_many_in (spManyX K CB 8)) : Fn P w K mg base (L2.CX P w) 13 "check_condition" P_check_condition (spCkCX K CB) := by
  refine D0.okX sc_check_condition (fun vs H Q E h => ?_) (fun f cdv A outer s H vs Q E hr h => ?_)
  · obtain ⟨kp, v, ks, d, rfl, _⟩ := h
    rfl
  · obtain ⟨kp, v, ks, d, rfl, hkp, k4, iv, tame, k, kE⟩ := h
    have nd := sc_check_condition.nd
    refine ⟨_, (pss_one (ps_if (pt_cmpR op_gt (pe_c (E := E) G_many_in (hr.mono (by decide)) (passes_at (fun σ => passAt (takes_of rfl rfl rfl rfl) σ)) (pa_cons (pv 0) (pa_cons (pv 1) (pa_cons pe_int pa_nil)))) (pe_gint TK.c_MOST_CONDITIONS) (nomark _))
  (pss_one (ps_raise rfl (takes_of rfl rfl rfl rfl) (SkE.pmk_own1 PySem.F.excBase_ValueError XC.x XC.g XC.k (raises_own XC.b XC.t) rfl (pe_joined (.cons pe_str (.cons (pe_fmt (pe_gint TK.c_MOST_CONDITIONS)) (.cons pe_str .nil)))))))
  pss_nil)), ?_⟩
    have hlog : (15 : Int).natAbs < 2 ^ 64 := by decide
    have a1 := str_add (show Str.empty.length ≤ 0 from Nat.le_refl 0) (show (Str.ofString "there are at most ").length ≤ 20 by decide)
    have a2 := str_add a1 (int_len hlog)
    have a3 := str_add a2 (show (Str.ofString " conditions in one").length ≤ 20 by decide)
    refine ⟨_, rfl, _, rfl, kp, v, ks, d, rfl, hkp, k4, iv, tame, fun m hm H1 s1 => ⟨_, _, rfl, rfl, _, rfl, ?_⟩, fun hm H1 s1 => kE ?_ H1 s1⟩
    · refine ite2 (fun c => ?_) (fun c => k ?_ H1 s1)
      · have c' := of_decide_eq_true c
        refine ⟨_, rfl, str_fits a1 (by decide), .inr ⟨_, rfl, int_log hlog, _, rfl, str_fits a2 (by decide), _, rfl, str_fits a3 (by decide), kE ?_ _ s1⟩⟩
        unfold goodD
        rw [hm]
        exact decide_eq_false (by omega)
      · unfold goodD
        rw [hm]
        refine decide_eq_true (Decidable.byContradiction fun z => c (decide_eq_true ?_))
        omega
    · unfold goodD
      rw [hm]
end
end K3

set_option Elab.async false
set_option linter.all false
set_option maxRecDepth 100000
/-! KTw: the words of a condition; a prefix code, read from the left and built from the right. -/
namespace K3
open PySem PySem.Spec PyProof.Rows L2 SX
def figs : List Nat → List Nat
  | 45 :: r => r
  | l => l
def digB (l : List Nat) : Bool := l.all fun c => decide (48 ≤ c) && decide (c ≤ 57)
/-- the words of a number -/
def wI (i : Int) : List Nat := (Str.ofString (toString i)).cps.toList
theorem S_wI (i : Int) : S (wI i) = Str.ofString (toString i) := S_tl _
def nI (l : List Nat) : Int := (intText? (S l)).getD 0
def figOk (l : List Nat) : Bool := !(figs l).isEmpty && decide ((figs l).length ≤ 4) && digB (figs l)
/-- the value that a word tells -/
def valW : List Nat → Option Vl
  | 61 :: l => if decide (l.length ≤ 6) && ltrB l then some (.wrd l) else none
  | l => if figOk l then (if wI (nI l) = l then some (.num (nI l)) else none) else none
theorem digitsVal_lt : ∀ {l : List Nat} {acc : Nat}, digB l = true → l.foldl (fun acc c => acc * 10 + (c - 48)) acc < (acc + 1) * 10 ^ l.length
  | [], acc, _ => by
    show acc < (acc + 1) * 1
    omega
  | c :: l, acc, h => by
    have h1 : ((decide (48 ≤ c) && decide (c ≤ 57)) && digB l) = true := h
    simp only [Bool.and_eq_true, decide_eq_true_eq] at h1
    have := digitsVal_lt (l := l) (acc := acc * 10 + (c - 48)) h1.2
    rw [List.foldl_cons]
    refine Nat.lt_of_lt_of_le this ?_
    rw [List.length_cons, Nat.pow_succ, show (acc + 1) * (10 ^ l.length * 10) = ((acc + 1) * 10) * 10 ^ l.length by
      rw [Nat.mul_comm (10 ^ l.length) 10, Nat.mul_assoc]]
    exact Nat.mul_le_mul_right _ (by omega)
theorem digB_all {l : List Nat} (h : digB l = true) : NumText.AllDigits l := fun c hc => by
  have := List.all_eq_true.mp h c hc
  simpa [Bool.and_eq_true, decide_eq_true_eq] using this
/-- what int() reads of a word of few figures -/
theorem fig_int {l : List Nat} (h : figOk l = true) : intText? (S l) = some (nI l) ∧ -9999 ≤ nI l ∧ nI l ≤ 9999 ∧ l.length ≤ 5 := by
  unfold figOk at h
  simp only [Bool.and_eq_true, decide_eq_true_eq, Bool.not_eq_true'] at h
  obtain ⟨⟨h1, h2⟩, h3⟩ := h
  have ne : figs l ≠ [] := fun e => by
    rw [e] at h1
    cases h1
  have lt : NumText.digitsVal (figs l) < 10000 := by
    have := digitsVal_lt (l := figs l) (acc := 0) h3
    refine Nat.lt_of_lt_of_le this ?_
    rw [Nat.zero_add, Nat.one_mul]
    exact Nat.pow_le_pow_right (by decide) h2
  have two : (∃ r, l = 45 :: r ∧ figs l = r) ∨ figs l = l := by
    unfold figs
    split
    · exact .inl ⟨_, rfl, rfl⟩
    · exact .inr rfl
  rcases two with ⟨r, rfl, e⟩ | e
  · rw [e] at h3 ne lt h2
    have le : (S (45 :: r)).length ≤ 4300 := by
      rw [S_len, List.length_cons]
      omega
    have := PySem.intText_neg (x := S (45 :: r)) (cs := r) rfl (digB_all h3) ne le
    have q : nI (45 :: r) = -((NumText.digitsVal r : Nat) : Int) := by
      unfold nI
      rw [this]
      rfl
    refine ⟨by rw [this, q], by omega, by omega, by rw [List.length_cons]; omega⟩
  · rw [e] at h3 ne lt h2
    have le : (S l).length ≤ 4300 := by
      rw [S_len]
      omega
    have := PySem.intText_digits (x := S l) (digB_all h3) ne le
    have q : nI l = ((NumText.digitsVal l : Nat) : Int) := by
      unfold nI
      rw [this]
      rfl
    refine ⟨by rw [this, q], by omega, by omega, by omega⟩
theorem ltrB_ltr {l : List Nat} (h : ltrB l = true) : Ltr l := fun c hc => by
  have := List.all_eq_true.mp h c hc
  exact of_decide_eq_true this
theorem valW_eq {l : List Nat} {x : Vl} (h : valW l = some x) : (∃ r, l = 61 :: r ∧ x = .wrd r ∧ Lw r) ∨ (figOk l = true ∧ x = .num (nI l) ∧ wI (nI l) = l ∧ ∀ r, l ≠ 61 :: r) := by
  unfold valW at h
  split at h
  · rename_i r
    split at h
    · rename_i c
      simp only [Bool.and_eq_true, decide_eq_true_eq] at c
      cases h
      exact .inl ⟨r, rfl, rfl, c.1, ltrB_ltr c.2⟩
    · cases h
  · rename_i nr
    split at h
    · rename_i c
      split at h
      · rename_i e
        cases h
        exact .inr ⟨c, rfl, e, nr⟩
      · cases h
    · cases h
/-- what kinds of parts a name wants: true: a condition -/
def kindsOf (z : List Nat) : Option (List Bool) := (partsOf (S z)).map fun ps => ps.map fun p => decide (p = condS)
theorem kinds_val {z : List Nat} {qs : List Bool} (h : kindsOf z = some qs) : valW z = none ∧ qs.length ≤ 3 ∧ z ≠ [] ∧ (∀ r, z ≠ 61 :: r) ∧ z.length ≤ 6 := by
  unfold kindsOf partsOf partsT at h
  simp only [List.lookup] at h
  repeat' split at h
  all_goals first
    | (cases h; done)
    | (cases h
       rename_i e
       have e := congrArg (fun x : Str => x.cps.toList) (eq_of_beq e)
       dsimp only at e
       subst e
       exact ⟨by decide +kernel, by decide +kernel, by decide +kernel, (fun r y => by
        have q : some _ = some 61 := congrArg (List.head? ·) y
        exact absurd (Option.some.inj q) (by decide +kernel)), by decide +kernel⟩)
/-- the reading from the left: the place of the first bad word -/
def rdW : List Bool → List (List Nat) → Nat → Option Nat
  | [], [], _ => none
  | _ :: _, [], p => some p
  | [], _ :: _, p => some p
  | true :: ws, w :: r, p => match kindsOf w with
    | none => some p
    | some ks => rdW (ks ++ ws) r (p + 1)
  | false :: ws, w :: r, p => if (valW w).isSome then rdW ws r (p + 1) else some p
/-- a forest: what the words stand for; n: how deep its trees may be -/
inductive Fo : List Bool → List (List Nat) → List Dat → Nat → Prop where
  | nil {n : Nat} : Fo [] [] [] n
  | val {w : List Nat} {x : Vl} {ks : List Bool} {ws : List (List Nat)} {ds : List Dat} {n : Nat} (h : valW w = some x) (r : Fo ks ws ds n) : Fo (false :: ks) (w :: ws) (x.dat :: ds) n
  | node {z : List Nat} {qs ks : List Bool} {us ws : List (List Nat)} {es ds : List Dat} {n : Nat} (h : kindsOf z = some qs) (a : Fo qs us es n) (r : Fo ks ws ds (n + 1)) : Fo (true :: ks) (z :: (us ++ ws)) (.tup (.str (S z) :: es) :: ds) (n + 1)
theorem Fo.mono {ks : List Bool} {ws : List (List Nat)} {ds : List Dat} {n : Nat} (f : Fo ks ws ds n) : ∀ {m : Nat}, n ≤ m → Fo ks ws ds m := by
  induction f with
  | nil => exact fun _ => .nil
  | val h _ ih => exact fun le => .val h (ih le)
  | node h _ _ ih1 ih2 =>
    intro m le
    obtain ⟨m, rfl⟩ : ∃ k, m = k + 1 := ⟨m - 1, by omega⟩
    exact .node h (ih1 (by omega)) (ih2 le)
theorem Fo.app {ks : List Bool} {ws : List (List Nat)} {ds : List Dat} {n : Nat} (f : Fo ks ws ds n) : ∀ {js : List Bool} {vs : List (List Nat)} {es : List Dat}, Fo js vs es n → Fo (ks ++ js) (ws ++ vs) (ds ++ es) n := by
  induction f with
  | nil => exact fun g => g
  | val h _ ih => exact fun g => .val h (ih g)
  | node h a _ _ ih2 =>
    intro js vs es g
    have := Fo.node h a (ih2 g)
    rwa [← List.append_assoc] at this
theorem Fo.split : ∀ {js ks : List Bool} {ws : List (List Nat)} {ds : List Dat} {n : Nat}, Fo (js ++ ks) ws ds n → ∃ us vs es fs, ws = us ++ vs ∧ ds = es ++ fs ∧ Fo js us es n ∧ Fo ks vs fs n
  | [], ks, ws, ds, n, f => ⟨[], ws, [], ds, rfl, rfl, .nil, f⟩
  | false :: js, ks, ws, ds, n, f => by
    have f : Fo (false :: (js ++ ks)) ws ds n := f
    cases f with
    | val h r =>
      obtain ⟨us, vs, es, fs, rfl, rfl, a, b⟩ := r.split
      exact ⟨_ :: us, vs, _ :: es, fs, rfl, rfl, .val h a, b⟩
  | true :: js, ks, ws, ds, n, f => by
    have f : Fo (true :: (js ++ ks)) ws ds n := f
    cases f with
    | node h c r =>
      obtain ⟨us, vs, es, fs, rfl, rfl, a, b⟩ := r.split
      refine ⟨_ :: (_ ++ us), vs, _ :: es, fs, ?_, rfl, .node h c a, b⟩
      rw [List.cons_append, List.append_assoc]
theorem Fo.len {ks : List Bool} {ws : List (List Nat)} {ds : List Dat} {n : Nat} (f : Fo ks ws ds n) : ds.length = ks.length := by
  induction f with
  | nil => rfl
  | val h _ ih => rw [List.length_cons, List.length_cons, ih]
  | node h _ _ _ ih => rw [List.length_cons, List.length_cons, ih]
theorem rd_forest : ∀ {m : Nat} {ks : List Bool} {ws : List (List Nat)} {p : Nat}, ws.length ≤ m → rdW ks ws p = none → ∃ ds, Fo ks ws ds m
  | m, [], [], p, _, h => ⟨[], .nil⟩
  | m, k :: ks, [], p, _, h => by cases k <;> cases h
  | m, [], w :: r, p, _, h => by cases h
  | 0, _, w :: r, p, l, h => by cases l
  | m + 1, true :: ks, w :: r, p, l, h => by
    have h : (match kindsOf w with | none => some p | some qs => rdW (qs ++ ks) r (p + 1)) = none := h
    cases hk : kindsOf w with
    | none =>
      rw [hk] at h
      cases h
    | some qs =>
      rw [hk] at h
      obtain ⟨ds, f⟩ := rd_forest (m := m) (by rw [List.length_cons] at l; omega) h
      obtain ⟨us, vs, es, fs, rfl, rfl, a, b⟩ := f.split
      exact ⟨_, .node hk a (b.mono (by omega))⟩
  | m + 1, false :: ks, w :: r, p, l, h => by
    have h : (if (valW w).isSome then rdW ks r (p + 1) else some p) = none := h
    cases hv : valW w with
    | none =>
      rw [hv] at h
      cases h
    | some x =>
      rw [hv] at h
      obtain ⟨ds, f⟩ := rd_forest (m := m) (by rw [List.length_cons] at l; omega) h
      exact ⟨_, .val hv (f.mono (by omega))⟩
/-- a step of the building from the right -/
def stW (w : List Nat) (st : List Dat) : List Dat := match kindsOf w with
  | some qs => .tup (.str (S w) :: st.take qs.length) :: st.drop qs.length
  | none => match valW w with
    | some x => x.dat :: st
    | none => st
/-- the first word taken off: a forest is left, from which the step leads back -/
theorem Fo.tail {ks : List Bool} {w : List Nat} {r : List (List Nat)} {ds : List Dat} {n : Nat} (f : Fo ks (w :: r) ds n) : ∃ ks' ds', Fo ks' r ds' n ∧ ds = stW w ds' ∧ (∀ qs, kindsOf w = some qs → qs.length ≤ ds'.length) ∧ (kindsOf w = none → (valW w).isSome = true) := by
  cases f with
  | val h g =>
    have hk : kindsOf w = none := by
      cases e : kindsOf w with
      | none => rfl
      | some qs =>
        rw [(kinds_val e).1] at h
        cases h
    refine ⟨_, _, g, ?_, fun qs e => by (rw [hk] at e; cases e), fun _ => by rw [h]; rfl⟩
    unfold stW
    rw [hk, h]
  | node h a g =>
    refine ⟨_, _, (a.mono (Nat.le_succ _)).app g, ?_, fun qs e => ?_, fun e => by rw [h] at e; cases e⟩
    · unfold stW
      rw [h]
      show _ = Dat.tup (Dat.str (S w) :: List.take _ _) :: List.drop _ _
      rw [← a.len, List.take_left, List.drop_left]
    · rw [h] at e
      cases e
      rw [List.length_append, a.len]
      omega
theorem Fo.fold {ks : List Bool} {ws : List (List Nat)} : ∀ {ds : List Dat} {n : Nat}, Fo ks ws ds n → ws.foldr stW [] = ds := by
  induction ws generalizing ks with
  | nil =>
    intro ds n f
    cases f
    rfl
  | cons w r ih =>
    intro ds n f
    obtain ⟨ks', ds', g, e, _⟩ := f.tail
    rw [List.foldr_cons, ih g, e]
end K3

set_option Elab.async false
set_option linter.all false
set_option maxRecDepth 100000
set_option maxHeartbeats 4000000
/-! KTv: the value that a word tells, by the law and by the program -/
namespace K3
open PySem PySem.Spec PyProof.Rows L2 SX
/-- [c for c in text if ..] -/
theorem lc_signs {z : Str} {j : Nat} {tt : TT} {te : TE} {σ : L2.St} {H1 : Hp} {D : Addr} {Qd : Hp → Prop} (p : Nat → Bool) (nD : H1 D = none) (hz : z.length ≤ 10000)
    (ht : ∀ (c : Nat) (H : Hp) (Q : Bool → Hp → Prop), Q (p c) H → tt (σ.set j (some (.str ⟨#[c]⟩))) H Q) (he : ∀ (c : Nat) (H : Hp) (Q : VK), Q (.str ⟨#[c]⟩) H → te (σ.set j (some (.str ⟨#[c]⟩))) H Q)
    (hd : ∀ H, Same H1 H → H D = some (.lst ((z.cps.toList.filter p).map fun c => V.str ⟨#[c]⟩)) → Qd H) :
    ∃ W : Nat → Nat → Hp → Prop, (∃ m, W 0 m (L2.upd H1 D (.lst []))) ∧ ∀ i m H, W i m H →
      ((Its z).stop i H ∧ Qd H) ∨ ((Its z).go i H ∧ ∃ Nx : Hp → Prop, (∀ H', Nx H' → ∃ m', m' < m ∧ W (i + 1) m' H') ∧ ∀ x H', (Its z).yld i H x H' → gName j x (wipe σ [j]) H' fun σ2 H2 => wipe σ2 [j] = wipe σ [j] ∧ tt σ2 H2 fun b H3 =>
        if b = true then te σ2 H3 fun y H4 => ∃ acc, H4 D = some (.lst acc) ∧ acc.length < sizeLine ∧ Nx (L2.upd H4 D (.lst (acc ++ [y]))) else Nx H3) := by
  have lz : z.cps.toList.length = z.length := Array.length_toList
  refine lc_it walk_str (fun i H => Same H1 H ∧ H D = some (.lst (((z.cps.toList.take i).filter p).map fun c => V.str ⟨#[c]⟩))) ⟨Same.upd nD, upd_same⟩ (fun _ _ _ _ => True.intro) ?_ ?_
  · rintro i x H H' hi ⟨s1, hD⟩ ⟨rfl, c, hc, rfl⟩
    have e : (wipe σ [j]).set j (some (V.str ⟨#[c]⟩)) = σ.set j (some (V.str ⟨#[c]⟩)) := by
      show (σ.set j none).set j _ = _
      rw [List.set_set]
    have hc' : z.cps.toList[i]? = some c := by
      rw [Array.getElem?_toList]
      exact hc
    refine ⟨?_, ?_⟩
    · show ((σ.set j none).set j _).set j none = σ.set j none
      rw [List.set_set, List.set_set]
    · rw [e]
      refine ht c H' _ ?_
      have tk : (z.cps.toList.take (i + 1)).filter p = (z.cps.toList.take i).filter p ++ (if p c = true then [c] else []) := by
        rw [List.take_succ, hc', List.filter_append]
        congr 1
        show List.filter p [c] = _
        by_cases q : p c = true
        · rw [if_pos q, List.filter_cons_of_pos q, List.filter_nil]
        · rw [if_neg q, List.filter_cons_of_neg q, List.filter_nil]
      by_cases q : p c = true
      · rw [if_pos q]
        refine he c H' _ ⟨_, hD, ?_, ?_, ?_⟩
        · have : sizeLine = 16777216 := sizeLine_eq
          have l1 := List.length_filter_le p (z.cps.toList.take i)
          have l2 := List.length_take_le' i z.cps.toList
          rw [List.length_map]
          omega
        · exact fun r u e9 => (upd_ne fun y => by
            rw [y, nD] at e9
            cases e9).trans (s1 r u e9)
        · rw [tk, if_pos q, List.map_append]
          exact upd_same
      · rw [if_neg q]
        refine ⟨s1, ?_⟩
        rw [tk, if_neg q, List.append_nil]
        exact hD
  · rintro H ⟨s1, hD⟩
    rw [List.take_of_length_le (by rw [lz]; exact Nat.le_refl _)] at hD
    exact hd H s1 hD
section
variable {P : Program} {w : World} {K : PySem.W.Frag} {mg : Str → Option Value} {base : Heap}
abbrev s__law_value_of : Stmt := top 58
abbrev N__law_value_of : List Str := ["_law_word_here", "_law_rest", "_law_letters", "_law_sign", "_law_figures"]
abbrev P__law_value_of : List Str := ["_law_word_here"]
theorem sc__law_value_of : FnScope N__law_value_of P__law_value_of (defScope s__law_value_of) := ⟨rfl, rfl, rfl, by decide +kernel, rfl, by decide +kernel, by decide +kernel⟩
theorem figures_mem (c : Nat) : decide (c ∈ (Str.ofString "0123456789").cps.toList) = (decide (48 ≤ c) && decide (c ≤ 57)) := by
  have e : (Str.ofString "0123456789").cps.toList = (List.range 10).map (48 + ·) := by decide
  rw [e, ← Bool.decide_and]
  refine decide_eq_decide.mpr ?_
  rw [List.mem_map]
  constructor
  · rintro ⟨n, hn, rfl⟩
    have := List.mem_range.mp hn
    omega
  · intro h
    exact ⟨c - 48, List.mem_range.mpr (by omega), by omega⟩
def spVal : Sp := fun vs H Q _ => ∃ l : List Nat, vs = [.str (S l)] ∧ l.length ≤ 10000 ∧ ∀ H' p, Same H H' → H p = none → H' p = some (.lst ((valW l).toList.map Vl.v)) → Q (.ref p) H'
theorem ok_value_of (T : Txt mg) (T4 : Txt4 mg) (D0 : Df K mg "_law_value_of" s__law_value_of P__law_value_of) : Fn P w K mg base CX0 1 "_law_value_of" P__law_value_of spVal := by
  refine D0.ok sc__law_value_of (fun vs H Q E h => ?_) (fun f cdv A outer s H vs Q E hr h => ?_)
  · obtain ⟨l, rfl, _⟩ := h
    rfl
  · obtain ⟨l, rfl, hl, k⟩ := h
    have nd := sc__law_value_of.nd
    refine ⟨_, (pss_cons (ps_set (i := 1) nd rfl (by first | exact Or.inl rfl | exact Or.inr rfl) (pe_slice sl_str (pv 0) (po_some pe_int) po_none))
  (pss_cons (ps_if (pt_cmpR op_eq (pe_slice sl_str (pv 0) po_none (po_some pe_int)) pe_str (nomark _))
  (pss_cons (ps_setLc (i := 2) (own := [("_law_sign", 3)]) (g := gName 3) (by rfl) nd rfl rfl (sw_true rfl rfl rfl (by decide +kernel)) (pi_str (pv 1)) (blkOk_by (own := [("_law_sign", 3)]) (N := N__law_value_of) (sc := defScope s__law_value_of) (by decide +kernel)) (fun _ _ _ _ _ => pg_name (i := 3) nd rfl (Or.inl rfl)) (fun _ _ _ _ _ => pts_one (pt_cmpR op_in_sign (pv 3) pe_str (by rfl))) (fun _ _ _ _ _ => (pv 3)))
  (pss_one (ps_ret (pe_ifExp (PW.pt (pw_and (pt_cmpR op_le (pe_callB call_len_str (by rfl) T.b_len (by decide +kernel) (pa_cons (pv 1) pa_nil)) pe_int (nomark _)) (pw_and1 (pt_cmpR op_eq (pe_callB call_len_seq (by rfl) T.b_len (by decide +kernel) (pa_cons (pv 2) pa_nil)) (pe_callB call_len_str (by rfl) T.b_len (by decide +kernel) (pa_cons (pv 1) pa_nil)) (nomark _))))) (pe_lst (pa_cons (pv 1) pa_nil)) (pe_lst pa_nil)))))
  pss_nil)
  (Evl.pss_cut (ps_set (i := 4) nd rfl (by first | exact Or.inl rfl | exact Or.inr rfl) (pe_ifExp (pt_cmpR op_eq (pe_slice sl_str (pv 0) po_none (po_some pe_int)) pe_str (nomark _)) (pv 1) (pv 0)))
  (pss_cons (ps_if (PW.pt (pw_or (pt_cmpR op_eq (pv 4) pe_str (nomark _)) (pw_or (pt_cmpR op_gt (pe_callB call_len_str (by rfl) T.b_len (by decide +kernel) (pa_cons (pv 4) pa_nil)) pe_int (nomark _)) (pw_or1 (pt_cmpR (op_neNil hr.units) (pe_lc (own := [("_law_sign", 3)]) (g := gName 3) (by rfl) nd  (pi_str (pv 4)) (blkOk_by (own := [("_law_sign", 3)]) (N := N__law_value_of) (sc := defScope s__law_value_of) (by decide +kernel)) (fun _ _ _ _ _ => pg_name (i := 3) nd rfl (Or.inl rfl)) (fun _ _ _ _ _ => pts_one (pt_cmpR op_notIn_sign (pv 3) pe_str (by rfl))) (fun _ _ _ _ _ => (pv 3))) (pe_lst pa_nil) (nomark _))))))
  (pss_one (ps_ret (pe_lst pa_nil)))
  pss_nil)
  (pss_one (ps_ret (pe_ifExp (pt_cmpR op_eq (pe_callTy call_str_int (by rfl) T4.b_str (by decide +kernel) (pa_cons (pe_callTy call_int_str (by rfl) T.b_int (by decide +kernel) (pa_cons (pv 0) pa_nil)) pa_nil)) (pv 0) (nomark _)) (pe_lst (pa_cons (pe_callTy call_int_str (by rfl) T.b_int (by decide +kernel) (pa_cons (pv 0) pa_nil)) pa_nil)) (pe_lst pa_nil)))))))), ?_⟩
    have e1 : cutS (S l) (some 1) none = S (l.drop 1) := by
      unfold cutS
      rw [HT.sIx_none, show (some (1 : Int)) = some ((1 : Nat) : Int) from rfl, HT.sIx_nat, S_len]
      congr 2
      rw [List.take_of_length_le (by rw [List.length_drop]; exact Nat.le_refl _)]
      by_cases c : 1 ≤ l.length
      · rw [Nat.min_eq_left c]
      · rw [List.drop_of_length_le (by show l.length ≤ min 1 l.length; omega), List.drop_of_length_le (by omega)]
    have e2 : cutS (S l) none (some 1) = S (l.take 1) := cutS_to l 1
    have fit : (S l).length ≤ sizeLine := by rw [S_len, sizeLine_eq]; omega
    have fit1 : (S (l.drop 1)).length ≤ sizeLine := by rw [S_len, sizeLine_eq, List.length_drop]; omega
    refine ⟨_, rfl, _, rfl, S l, rfl, fit, ?_⟩
    rw [e1]
    refine ⟨_, rfl, _, rfl, S l, rfl, fit, ?_⟩
    rw [e2]
    refine ⟨rfl, _, rfl, ?_⟩
    refine ite2 (fun c => ?_) (fun c => ?_)
    · have c : S (l.take 1) = S [61] := V.str.inj (of_decide_eq_true c)
      have c1 := S_inj c
      obtain ⟨r, rfl⟩ : ∃ r, l = 61 :: r := by
        cases l with
        | nil => cases c1
        | cons x r =>
          cases c1
          exact ⟨r, rfl⟩
      rw [List.drop_succ_cons, List.drop_zero] at fit1 ⊢
      have rl : r.length ≤ 10000 := by rw [List.length_cons] at hl; omega
      refine ⟨_, rfl, S r, rfl, fun D0 nD => lc_signs (fun c => decide (97 ≤ c ∧ c ≤ 122)) nD (by rw [S_len]; exact rl) (fun c H Q q => ?_) (fun c H Q q => ⟨_, rfl, q⟩) (fun H1 s1 hD => ?_)⟩
      · refine ⟨_, rfl, c, _, rfl, rfl, _, rfl, ?_⟩
        rw [letters_mem]
        exact q
      · refine ⟨_, rfl, S r, rfl, fit1, _, _, rfl, rfl, _, rfl, ?_⟩
        have lr0 : ((S r).length : Int) = (r.length : Nat) := by rw [S_len]
        have vw : valW (61 :: r) = if decide (r.length ≤ 6) && ltrB r then some (.wrd r) else none := rfl
        refine ite2 (fun c6 => ?_) (fun c6 => ?_)
        · have c6 := of_decide_eq_true c6
          have r6 : r.length ≤ 6 := by omega
          refine ⟨_, rfl, D0, _, rfl, .inl (SqL.of hD), _, rfl, S r, rfl, fit1, rfl, _, rfl, ?_⟩
          refine ite2 (fun c7 => ?_) (fun c7 => ?_)
          · have c7 := V.int.inj (of_decide_eq_true c7)
            rw [List.length_map, S_len] at c7
            have al : ltrB r = true := by
              have := List.filter_eq_self.mp (List.Sublist.eq_of_length (List.filter_sublist (p := fun c => decide (97 ≤ c ∧ c ≤ 122)) (l := r)) (by exact Int.ofNat.inj c7))
              exact List.all_eq_true.mpr this
            refine ⟨_, rfl, (by show 1 ≤ sizeLine; decide), fun q nq => k _ q (s1.trans (Same.upd nq)) ?_ ?_⟩
            · exact s1.free nq
            · rw [vw, al, decide_eq_true r6]
              exact upd_same
          · refine ⟨(by show 0 ≤ sizeLine; decide), fun q nq => k _ q (s1.trans (Same.upd nq)) (s1.free nq) ?_⟩
            have al : ltrB r = false := by
              cases e : ltrB r with
              | false => rfl
              | true =>
                refine absurd (decide_eq_true ?_) c7
                rw [List.length_map, S_len, List.filter_eq_self.mpr (List.all_eq_true.mp e)]
            rw [vw, al, Bool.and_false]
            exact upd_same
        · have c6 : ¬ ((S r).length : Int) ≤ 6 := fun y => c6 (decide_eq_true y)
          refine ⟨(by show 0 ≤ sizeLine; decide), fun q nq => k _ q (s1.trans (Same.upd nq)) (s1.free nq) ?_⟩
          rw [vw, decide_eq_false (by omega), Bool.false_and]
          exact upd_same
    · have nr : ∀ r, l ≠ 61 :: r := fun r e => c (decide_eq_true (by rw [e]; rfl))
      -- the figures
      have fg : (l.take 1 = [45] → l.drop 1 = figs l) ∧ (l.take 1 ≠ [45] → l = figs l) := by
        cases l with
        | nil => exact ⟨fun e => by (cases e), fun _ => rfl⟩
        | cons x r =>
          by_cases e : x = 45
          · subst e
            exact ⟨fun _ => rfl, fun h => absurd rfl h⟩
          · refine ⟨fun h => absurd (by cases h; rfl) e, fun _ => ?_⟩
            unfold figs
            split
            · rename_i q
              cases q
              exact absurd rfl e
            · rfl
      have fl : (figs l).length ≤ 10000 := by
        by_cases e : l.take 1 = [45]
        · rw [← fg.1 e, List.length_drop]
          omega
        · rw [← fg.2 e]
          exact hl
      have vw : valW l = if figOk l then (if wI (nI l) = l then some (.num (nI l)) else none) else none := by
        unfold valW
        split
        · rename_i r
          exact absurd rfl (nr r)
        · rfl
      refine ⟨fun σ H' => H' = H ∧ ∃ x1 x2 x3, σ = [some (V.str (S l)), x1, x2, x3, some (V.str (S (figs l)))], ?_, ?_⟩
      · refine ⟨_, rfl, _, rfl, S l, rfl, fit, ?_⟩
        rw [e2]
        refine ⟨rfl, _, rfl, ?_⟩
        refine ite2 (fun c => ⟨_, rfl, rfl, some (V.str (S (l.drop 1))), none, none, ?_⟩) (fun c => ⟨_, rfl, rfl, some (V.str (S (l.drop 1))), none, none, ?_⟩)
        · rw [← fg.1 (S_inj (V.str.inj (of_decide_eq_true c)))]
          rfl
        · have e := fg.2 fun e => c (decide_eq_true (by rw [e]; rfl))
          rw [← e]
          rfl
      · rintro σ H2 ⟨rfl, x1, x2, x3, rfl⟩
        have fitf : (S (figs l)).length ≤ sizeLine := by rw [S_len, sizeLine_eq]; omega
        have out : figOk l = false → ∀ q H1, Same H2 H1 → H1 q = none → Q (.ref q) (L2.upd H1 q (.lst [])) := fun e q H1 s1 nq => k _ q (s1.trans (Same.upd nq)) (s1.free nq) (by rw [vw, e]; exact upd_same)
        refine ⟨_, rfl, rfl, _, rfl, ?_⟩
        refine ite2 (fun c => ?_) (fun c => ?_)
        · have c := S_inj (V.str.inj (of_decide_eq_true c))
          refine ⟨(by show 0 ≤ sizeLine; decide), fun q nq => out ?_ q _ (.refl _) nq⟩
          unfold figOk
          rw [c]
          rfl
        have ne : figs l ≠ [] := fun e => c (decide_eq_true (by rw [e]; rfl))
        refine ⟨_, rfl, S (figs l), rfl, fitf, _, _, rfl, rfl, _, rfl, ?_⟩
        refine ite2 (fun c => ?_) (fun c => ?_)
        · have c := of_decide_eq_true c
          rw [S_len] at c
          refine ⟨(by show 0 ≤ sizeLine; decide), fun q nq => out ?_ q _ (.refl _) nq⟩
          unfold figOk
          rw [decide_eq_false (by omega), Bool.and_false, Bool.false_and]
        have le4 : (figs l).length ≤ 4 := Decidable.byContradiction fun z => c (decide_eq_true (by rw [S_len]; omega))
        refine ⟨_, rfl, S (figs l), rfl, fun D0 nD => lc_signs (fun c => !(decide (48 ≤ c) && decide (c ≤ 57))) nD (by rw [S_len]; exact fl) (fun c H Q q => ?_) (fun c H Q q => ⟨_, rfl, q⟩) (fun H1 s1 hD => ?_)⟩
        · refine ⟨_, rfl, c, _, rfl, rfl, _, rfl, ?_⟩
          rw [figures_mem]
          exact q
        · refine ⟨(by show 0 ≤ sizeLine; decide), fun q nq => ?_⟩
          have hD2 := Same.upd (o := .lst []) nq _ _ hD
          have iss : ∀ {H : Hp} (cs : List Nat), Iss K H (cs.map fun c => V.str ⟨#[c]⟩) (cs.map fun c => Dat.str ⟨#[c]⟩) := fun {H} cs => by
            refine ⟨by rw [List.length_map, List.length_map], fun i x d a b => ?_⟩
            rw [List.getElem?_map] at a b
            cases e : cs[i]? with
            | none =>
              rw [e] at a
              cases a
            | some c =>
              rw [e] at a b
              cases a
              cases b
              exact .str _
          have s2 := s1.upd' (o := .lst []) nq
          refine ⟨_, _, _, _, rfl, rfl, SqL.of hD2, iss _, SqL.of upd_same, _, rfl, ?_⟩
          refine ite2 (fun c => ?_) (fun c => ?_)
          · refine ⟨(by show 0 ≤ sizeLine; decide), fun q2 nq2 => out ?_ q2 _ s2 nq2⟩
            have c : (!decide (List.map (fun c => V.str ⟨#[c]⟩) (List.filter (fun c => !(decide (48 ≤ c) && decide (c ≤ 57))) (figs l)) = [])) = true := c
            have : digB (figs l) = false := by
              cases e : digB (figs l) with
              | false => rfl
              | true =>
                rw [show List.filter (fun c => !(decide (48 ≤ c) && decide (c ≤ 57))) (figs l) = [] from List.filter_eq_nil_iff.mpr fun c hc => by
                  rw [List.all_eq_true.mp e c hc]
                  decide] at c
                cases c
            unfold figOk
            rw [this, Bool.and_false]
          have c : ¬ (!decide (List.map (fun c => V.str ⟨#[c]⟩) (List.filter (fun c => !(decide (48 ≤ c) && decide (c ≤ 57))) (figs l)) = [])) = true := c
          have dg : digB (figs l) = true := by
            have e : List.filter (fun c => !(decide (48 ≤ c) && decide (c ≤ 57))) (figs l) = [] := by
              have := Decidable.byContradiction (p := List.map (fun c => V.str ⟨#[c]⟩) (List.filter (fun c => !(decide (48 ≤ c) && decide (c ≤ 57))) (figs l)) = []) fun z => c (by rw [decide_eq_false z]; rfl)
              exact List.map_eq_nil_iff.mp this
            refine List.all_eq_true.mpr fun c hc => ?_
            have := List.filter_eq_nil_iff.mp e c hc
            simpa using this
          have ok : figOk l = true := by
            unfold figOk
            rw [dg, decide_eq_true le4]
            cases e : figs l with
            | nil => exact absurd e ne
            | cons x r => rfl
          obtain ⟨i1, i2, i3, i4⟩ := fig_int ok
          have l640 : (S l).length ≤ 640 := by rw [S_len]; omega
          have lg : (nI l).natAbs.log2 < 1920 := by
            by_cases z : (nI l).natAbs = 0
            · rw [z]
              decide
            · have := (Nat.log2_lt z (k := 1920)).mpr (Nat.lt_of_lt_of_le (show (nI l).natAbs < 2 ^ 14 by omega) (Nat.pow_le_pow_right (by decide) (by decide)))
              exact this
          refine ⟨_, rfl, _, _, rfl, i1, l640, _, rfl, lg, _, rfl, rfl, _, rfl, ?_⟩
          rw [← S_wI]
          refine ite2 (fun c => ?_) (fun c => ?_)
          · have c := S_inj (V.str.inj (of_decide_eq_true c))
            refine ⟨_, rfl, _, _, rfl, i1, l640, (by show 1 ≤ sizeLine; decide), fun q3 nq3 => k _ q3 (s2.trans (Same.upd nq3)) (s2.free nq3) ?_⟩
            rw [vw, ok, if_pos rfl, if_pos c]
            exact upd_same
          · refine ⟨(by show 0 ≤ sizeLine; decide), fun q3 nq3 => k _ q3 (s2.trans (Same.upd nq3)) (s2.free nq3) ?_⟩
            rw [vw, ok, if_pos rfl, if_neg fun e => c (decide_eq_true (by rw [e]))]
            exact upd_same
theorem starts1 (l : List Nat) (c : Nat) : Txt.startswith (S l) (S [c]) = decide (l.take 1 = [c]) := by
  unfold Txt.startswith
  rw [PySem.StrLaws.subAt_eq, S_len, S_len]
  show (decide (0 + 1 ≤ l.length) && ((l.drop 0).take 1 == [c])) = _
  rw [List.drop_zero]
  cases l with
  | nil => rfl
  | cons x r =>
    rw [decide_eq_true (by rw [List.length_cons]; omega), Bool.true_and]
    by_cases e : x = c
    · subst e
      have h1 : List.take 1 (x :: r) = [x] := rfl
      rw [h1, decide_eq_true rfl]
      exact beq_self_eq_true _
    · rw [decide_eq_false fun h => e (by cases h; rfl)]
      exact beq_eq_false_iff_ne.mpr fun h => e (by cases h; rfl)
theorem remove1 (l : List Nat) (c : Nat) : Txt.removeprefix (S l) (S [c]) = S (if l.take 1 = [c] then l.drop 1 else l) := by
  have q := starts1 l c
  unfold Txt.startswith at q
  rw [PySem.StrLaws.removeprefix_eq, q]
  by_cases e : l.take 1 = [c]
  · rw [decide_eq_true e, if_pos rfl, if_pos e]
    congr 1
    show List.toArray ((l.drop 1).take ((S l).length - 1)) = _
    rw [S_len, List.take_of_length_le (by rw [List.length_drop]; exact Nat.le_refl _)]
  · rw [decide_eq_false e, if_neg (by decide), if_neg e]
theorem figs_eq (l : List Nat) : figs l = if l.take 1 = [45] then l.drop 1 else l := by
  cases l with
  | nil => rfl
  | cons x r =>
    by_cases e : x = 45
    · subst e
      exact (if_pos rfl).symm
    · rw [if_neg fun h => e (by cases h; rfl)]
      unfold figs
      split
      · rename_i q
        cases q
        exact absurd rfl e
      · rfl
theorem dec_ascii : ∀ c, c < 128 → Unicode.isDecimal c = (decide (48 ≤ c) && decide (c ≤ 57)) := by decide +kernel
theorem isdec {l : List Nat} (h : ∀ c ∈ l, c < 128) : Txt.isdecimal (S l) = (!l.isEmpty && digB l) := by
  unfold Txt.isdecimal digB
  rw [S_len, ← Array.all_toList]
  show (decide (l.length > 0) && l.all Unicode.isDecimal) = _
  congr 1
  · cases l <;> rfl
  · rw [Bool.eq_iff_iff, List.all_eq_true, List.all_eq_true]
    exact ⟨fun g c hc => by rw [← dec_ascii c (h c hc)]; exact g c hc, fun g c hc => by rw [dec_ascii c (h c hc)]; exact g c hc⟩
abbrev s_is_part : Stmt := top 38
abbrev N_is_part : List Str := ["word", "figures"]
abbrev P_is_part : List Str := ["word"]
theorem sc_is_part : FnScope N_is_part P_is_part (defScope s_is_part) := ⟨rfl, rfl, rfl, by decide +kernel, rfl, by decide +kernel, by decide +kernel⟩
def spIsP : Sp := fun vs H Q _ => ∃ l : List Nat, vs = [.str (S l)] ∧ l.length ≤ 10000 ∧ (∀ c ∈ l, c < 128) ∧ ∀ H', Same H H' → Q (.bl (valW l).isSome) H'
theorem ok_is_part (T : Txt mg) (T4 : Txt4 mg) (c_MOST_FIGURES : ∃ t, mg "MOST_FIGURES" = some (.int 4 t)) (D0 : Df K mg "is_part" s_is_part P_is_part) (G_is_word : Fn P w K mg base CX0 1 "is_word" P_is_word (spIsW K)) : Fn P w K mg base CX0 2 "is_part" P_is_part spIsP := by
  refine D0.ok sc_is_part (fun vs H Q E h => ?_) (fun f cdv A outer s H vs Q E hr h => ?_)
  · obtain ⟨l, rfl, _⟩ := h
    rfl
  · obtain ⟨l, rfl, hl, asc, k⟩ := h
    have nd := sc_is_part.nd
    refine ⟨_, (pss_cons (ps_if (pt_val (L2.pe_m1 PySem.F.slot_str_startswith PySem.F.type_str_startswith mt_startswith (pv 0) pe_str))
  (pss_one (ps_ret (pe_c G_is_word (hr.mono (by decide)) pass0 (pa_cons (pe_slice sl_str (pv 0) (po_some pe_int) po_none) pa_nil))))
  pss_nil)
  (pss_cons (ps_set (i := 1) nd rfl (by first | exact Or.inl rfl | exact Or.inr rfl) (L2.pe_m1 PySem.F.slot_str_removeprefix PySem.F.type_str_removeprefix mt_removeprefix (pv 0) pe_str))
  (pss_cons (ps_if (PW.pt (pw_or (pt_not (pt_val (L2.pe_m0 PySem.F.slot_str_isdecimal PySem.F.type_str_isdecimal mt_isdecimal (pv 1)))) (pw_or1 (pt_cmpR op_gt (pe_callB call_len_str (by rfl) T.b_len (by decide +kernel) (pa_cons (pv 1) pa_nil)) (pe_gint c_MOST_FIGURES) (nomark _)))))
  (pss_one (ps_ret pe_bl))
  pss_nil)
  (pss_one (ps_ret (pe_cmpR op_eq (pe_callTy call_str_int (by rfl) T4.b_str (by decide +kernel) (pa_cons (pe_callTy call_int_str (by rfl) T.b_int (by decide +kernel) (pa_cons (pv 0) pa_nil)) pa_nil)) (pv 0) (nomark _))))))), ?_⟩
    have fit : (S l).length ≤ sizeLine := by rw [S_len, sizeLine_eq]; omega
    refine ⟨_, rfl, ⟨_, rfl⟩, S l, S [61], rfl, rfl, _, rfl, ?_⟩
    rw [starts1]
    refine ite2 (fun c => ?_) (fun c => ?_)
    · have c1 := of_decide_eq_true c
      obtain ⟨r, rfl⟩ : ∃ r, l = 61 :: r := by
        cases l with
        | nil => cases c1
        | cons x r =>
          cases c1
          exact ⟨r, rfl⟩
      have e1 : cutS (S (61 :: r)) (some 1) none = S r := by
        unfold cutS
        rw [HT.sIx_none, show (some (1 : Int)) = some ((1 : Nat) : Int) from rfl, HT.sIx_nat, S_len, List.length_cons, Nat.min_eq_left (by omega), List.drop_succ_cons, List.drop_zero, List.take_of_length_le (by omega)]
      refine ⟨_, rfl, _, rfl, S (61 :: r), rfl, fit, ?_⟩
      rw [e1]
      refine ⟨_, _, rfl, .str _, fun z e => ?_, fun H' s' => ?_⟩
      · cases e
        rw [S_len] at fit ⊢
        rw [List.length_cons] at fit
        omega
      · have := k H' s'
        rwa [show (valW (61 :: r)).isSome = wordB (.str (S r)) from by
          show (if decide (r.length ≤ 6) && ltrB r then some (Vl.wrd r) else none).isSome = (decide ((S r).length ≤ 6) && ltrB r)
          rw [S_len]
          cases (decide (r.length ≤ 6) && ltrB r) <;> rfl] at this
    · have nr : ∀ r, l ≠ 61 :: r := fun r e => c (decide_eq_true (by rw [e]; rfl))
      have vw : valW l = if figOk l then (if wI (nI l) = l then some (.num (nI l)) else none) else none := by
        unfold valW
        split
        · rename_i r
          exact absurd rfl (nr r)
        · rfl
      refine ⟨_, rfl, ⟨_, rfl⟩, S l, S [45], rfl, rfl, fit, ?_⟩
      rw [remove1, ← figs_eq]
      have fsub : ∀ c ∈ figs l, c ∈ l := fun c hc => by
        rw [figs_eq] at hc
        split at hc
        · exact List.mem_of_mem_drop hc
        · exact hc
      have fitf : (S (figs l)).length ≤ sizeLine := by
        rw [S_len, figs_eq, sizeLine_eq]
        split
        · rw [List.length_drop]
          omega
        · omega
      have out : figOk l = false → ∀ H1, Same H H1 → Q (.bl false) H1 := fun e H1 s1 => by
        have := k H1 s1
        rwa [vw, e] at this
      refine ⟨_, rfl, ⟨_, rfl⟩, _, rfl, rfl, True.intro, _, rfl, ?_⟩
      rw [isdec fun c hc => asc c (fsub c hc)]
      refine ite2 (fun c => ?_) (fun c => ?_)
      · refine ite2 (fun _ => out ?_ _ (.refl _)) (fun z => absurd rfl z)
        unfold figOk
        have c : (!(figs l).isEmpty && digB (figs l)) = false := by
          revert c
          cases (!(figs l).isEmpty && digB (figs l)) <;> decide
        cases e1 : (figs l).isEmpty with
        | true => rfl
        | false =>
          rw [e1] at c
          have c : digB (figs l) = false := c
          rw [c, Bool.and_false]
      · have c : (!(figs l).isEmpty && digB (figs l)) = true := by
          revert c
          cases (!(figs l).isEmpty && digB (figs l)) <;> decide
        simp only [Bool.and_eq_true, Bool.not_eq_true'] at c
        refine ⟨_, rfl, S (figs l), rfl, fitf, _, _, rfl, rfl, _, rfl, ?_⟩
        refine ite2 (fun c4 => ?_) (fun c4 => ?_)
        · have c4 := of_decide_eq_true c4
          rw [S_len] at c4
          refine out ?_ _ (.refl _)
          unfold figOk
          rw [decide_eq_false (by omega), Bool.and_false, Bool.false_and]
        have le4 : (figs l).length ≤ 4 := Decidable.byContradiction fun z => c4 (decide_eq_true (by rw [S_len]; omega))
        have ok : figOk l = true := by
          unfold figOk
          rw [c.1, c.2, decide_eq_true le4]
          rfl
        obtain ⟨i1, i2, i3, i4⟩ := fig_int ok
        have l640 : (S l).length ≤ 640 := by rw [S_len]; omega
        have lg : (nI l).natAbs.log2 < 1920 := by
          by_cases z : (nI l).natAbs = 0
          · rw [z]
            decide
          · exact (Nat.log2_lt z (k := 1920)).mpr (Nat.lt_of_lt_of_le (show (nI l).natAbs < 2 ^ 14 by omega) (Nat.pow_le_pow_right (by decide) (by decide)))
        refine ⟨_, rfl, _, _, rfl, i1, l640, _, rfl, lg, _, rfl, rfl, ?_⟩
        rw [← S_wI]
        have := k H (.refl _)
        rwa [show (valW l).isSome = decide (V.str (S (wI (nI l))) = V.str (S l)) from by
          rw [vw, ok, if_pos rfl]
          by_cases e : wI (nI l) = l
          · rw [if_pos e, e, decide_eq_true rfl]
            rfl
          · rw [if_neg e, decide_eq_false fun h => e (S_inj (V.str.inj h))]
            rfl] at this
end
end K3

set_option Elab.async false
set_option linter.all false
set_option maxRecDepth 100000
/-! KTs: list(text) -/
namespace K3
open PySem PySem.Spec PyProof.Rows L2 SX
/-- the signs of a text -/
def signsV (l : List Nat) : List V := l.map fun c => V.str ⟨#[c]⟩
theorem vals_signs : ∀ {l : List Nat} {us : List Value}, us.length = l.length → (∀ (j : Nat) (u : Value), us[j]? = some u → ∃ (c : Nat) (t : Tok), l[j]? = some c ∧ u = Value.str ⟨#[c]⟩ t) → Vals (signsV l) us
  | [], [], _, _ => .nil
  | [], _ :: _, h, _ => by cases h
  | _ :: _, [], h, _ => by cases h
  | c :: l, u :: us, h, g => by
    obtain ⟨c', t, e, rfl⟩ := g 0 u rfl
    cases e
    exact .cons ⟨t, rfl⟩ (vals_signs (Nat.succ.inj h) fun j u e => g (j + 1) u e)
theorem call_listS {X : Cx} (calm : X.calm = true) : CallR X (.type "list") (fun xs H Q => ∃ l : List Nat, xs = [.str (S l)] ∧ l.length ≤ 10000 ∧ ∀ p, H p = none → Q (.ref p) (L2.upd H p (.lst (signsV l)))) := by
  intro pins s σ H xs us Q I r q
  obtain ⟨l, rfl, hl, q⟩ := q
  obtain ⟨u, rfl, rx⟩ := vals1 r
  obtain ⟨t, rfl⟩ := rx
  have hz : (S l).cps.size ≤ sizeLine := by
    rw [sizeLine_eq]
    show l.toArray.size ≤ 16777216
    rw [List.size_toArray]
    omega
  refine PySem.call_list_str (hn := hz) (I.ok.hd calm) (S l) t fun h' tk acc c' hk hS hacc => ?_
  have hv : Vals (signsV l) acc.toList := by
    refine vals_signs ?_ fun j u e => ?_
    · rw [Array.length_toList, hacc.1]
      show l.toArray.size = l.length
      rw [List.size_toArray]
    · obtain ⟨c, t, e1, e2⟩ := hacc.2 j u (by rw [← Array.getElem?_toList]; exact e)
      refine ⟨c, t, ?_, e2⟩
      have e1 : l.toArray[j]? = some c := e1
      rwa [List.getElem?_toArray] at e1
  exact ⟨.ref s.heap.objs.size, L2.upd H s.heap.objs.size (.lst (signsV l)), I.laid (t' := tk) hk (Nat.le_refl _)
    (show ObjOk X.prog X.w _ _ _ (.lst (signsV l)) from ⟨by unfold signsV; rw [List.length_map, sizeLine_eq]; omega, acc.toList, c', hv, by rw [Array.toArray_toList]; exact hS⟩), rfl, q _ (I.hok.fresh (Nat.le_refl _))⟩
end K3

set_option Elab.async false
set_option linter.all false
set_option maxRecDepth 100000
set_option maxHeartbeats 4000000
/-! KTr: words read by the law -/
namespace K3
open PySem PySem.Spec PyProof.Rows L2 SX
def wS (q : Bool) : Nat := if q then 113 else 118
/-- the law's table of names -/
def sizesK : List (Key × V) := [(.inr "all", .str ""), (.inr "is", .str "vv"), (.inr "less", .str "vv"), (.inr "within", .str "vvv"), (.inr "begins", .str "vv"), (.inr "not", .str "q"), (.inr "and", .str "qq"), (.inr "or", .str "qq")]
theorem valV_tab {α : Type} (f : α → V) : ∀ (tb : List (Str × α)) (z : Str), valV (tb.map fun p => ((.inr p.1 : Key), f p.2)) (.inr z) = (tb.lookup z).map f
  | [], _ => rfl
  | p :: tb, z => by
    rw [List.map_cons, List.lookup_cons]
    by_cases e : z = p.1
    · subst e
      rw [valV_pos rfl, beq_self_eq_true]
      rfl
    · rw [valV_neg (fun h => e (Sum.inr.inj h).symm), beq_eq_false_iff_ne.mpr e]
      exact valV_tab f tb z
theorem sizes_get (z : List Nat) : valV sizesK (.inr (S z)) = (kindsOf z).map fun qs => V.str (S (qs.map wS)) := by
  have e : sizesK = partsT.map fun p => ((.inr p.1 : Key), V.str (S ((p.2.map fun p => decide (p = condS)).map wS))) := by kernel_rfl
  refine (congrArg (fun l => valV l (.inr (S z))) e).trans ((valV_tab (fun ps => V.str (S ((ps.map fun p => decide (p = condS)).map wS))) partsT (S z)).trans ?_)
  unfold kindsOf partsOf
  cases partsT.lookup (S z) <;> rfl
theorem signs_q (q : Bool) : decide (V.str ⟨#[wS q]⟩ = V.str "q") = q := by cases q <;> decide
theorem signs_iss {K : PySem.W.Frag} {H : Hp} (l : List Nat) : Iss K H (signsV l) (l.map fun c => Dat.str ⟨#[c]⟩) := by
  unfold signsV
  refine ⟨by rw [List.length_map, List.length_map], fun i x d a b => ?_⟩
  rw [List.getElem?_map] at a b
  cases e : l[i]? with
  | none =>
    rw [e] at a
    cases a
  | some c =>
    rw [e] at a b
    cases a
    cases b
    exact .str _
theorem vl_iss {K : PySem.W.Frag} {H : Hp} (xs : List Vl) : Iss K H (xs.map Vl.v) (xs.map Vl.dat) := by
  refine ⟨by rw [List.length_map, List.length_map], fun i x d a b => ?_⟩
  rw [List.getElem?_map] at a b
  cases e : xs[i]? with
  | none =>
    rw [e] at a
    cases a
  | some c =>
    rw [e] at a b
    cases a
    cases b
    exact c.is
section
variable {P : Program} {w : World} {K : PySem.W.Frag} {mg : Str → Option Value} {base : Heap}
abbrev s__law_read : Stmt := top 59
abbrev N__law_read : List Str := ["_law_words", "_law_waiting", "_law_sizes", "_law_wants", "_law_place", "_law_want"]
abbrev P__law_read : List Str := ["_law_words", "_law_waiting"]
theorem sc__law_read : FnScope N__law_read P__law_read (defScope s__law_read) := ⟨rfl, rfl, rfl, by decide +kernel, rfl, by decide +kernel, by decide +kernel⟩
def rdV : Option Nat → V
  | none => .non
  | some p => .int (p : Nat)
def spRead2 (K : PySem.W.Frag) : Sp := fun vs H Q _ => ∃ (wp : Addr) (ws : List (List Nat)), vs = [.ref wp, .str "q"] ∧ SqL K H wp (ws.map fun l => V.str (S l)) ∧ ws.length ≤ 10000 ∧ (∀ l ∈ ws, l.length ≤ 10000) ∧ ∀ H', Same H H' → Q (rdV (rdW [true] ws 0)) H'
theorem ok_read2 (T : Txt mg) (D0 : Df K mg "_law_read" s__law_read P__law_read) (G__law_value_of : Fn P w K mg base CX0 1 "_law_value_of" P__law_value_of spVal) : Fn P w K mg base CX0 2 "_law_read" P__law_read (spRead2 K) := by
  refine D0.ok sc__law_read (fun vs H Q E h => ?_) (fun f cdv A outer s H vs Q E hr h => ?_)
  · obtain ⟨wp, ws, rfl, _⟩ := h
    rfl
  · obtain ⟨wp, ws, rfl, hw, lw, ll, k⟩ := h
    have nd := sc__law_read.nd
    refine ⟨_, (pss_cons (ps_set (i := 2) nd rfl (by first | exact Or.inl rfl | exact Or.inr rfl) (pe_disp (pps_cons pe_str pe_str (pps_cons pe_str pe_str (pps_cons pe_str pe_str (pps_cons pe_str pe_str (pps_cons pe_str pe_str (pps_cons pe_str pe_str (pps_cons pe_str pe_str (pps_cons pe_str pe_str pps_nil)))))))) (by rfl) (by rfl) (fun z => by cases z) (by decide)))
  (pss_cons (ps_set (i := 3) nd rfl (by first | exact Or.inl rfl | exact Or.inr rfl) (pe_callTy (call_listS rfl) (by rfl) T.b_list (by decide +kernel) (pa_cons (pv 1) pa_nil)))
  (pss_cons (ps_for PassesOwn.never rfl (pi_range1 (by rfl) T.b_range (pa_cons (pe_callB call_len_seq (by rfl) T.b_len (by decide +kernel) (pa_cons (pv 0) pa_nil)) pa_nil)) (pg_name (i := 4) nd rfl (by first | exact Or.inl rfl | exact Or.inr rfl))
  (pss_cons (ps_if (pt_cmpR (op_eqNil hr.units) (pv 3) (pe_lst pa_nil) (nomark _))
  (pss_one (ps_ret (pv 4)))
  pss_nil)
  (pss_cons (ps_set (i := 5) nd rfl (by first | exact Or.inl rfl | exact Or.inr rfl) (pe_bm PySem.F.plainAttrs_list PySem.F.slot_list_pop PySem.F.type_list_pop mt_popAt (pv 3) (pa_cons pe_int pa_nil)))
  (pss_one (ps_if (pt_cmpR op_eq (pv 5) pe_str (nomark _))
  (pss_cons (ps_if (pt_cmp (pc_dnotin (hu_of hr) (pe_ix ix_list (pv 0) (pv 4) (fun _ _ => rfl)) (pv 2)))
  (pss_one (ps_ret (pv 4)))
  pss_nil)
  (pss_one (ps_set (i := 3) nd rfl (by first | exact Or.inl rfl | exact Or.inr rfl) (pe_op op_cat (pe_callTy (call_listS rfl) (by rfl) T.b_list (by decide +kernel) (pa_cons (pe_dget (hu_of hr) (pv 2) (pe_ix ix_list (pv 0) (pv 4) (fun _ _ => rfl)) (fun _ _ => rfl)) pa_nil)) (pv 3)))))
  (pss_one (ps_if (pt_cmpR (op_eqNil hr.units) (pe_c G__law_value_of (hr.mono (by decide)) pass0 (pa_cons (pe_ix ix_list (pv 0) (pv 4) (fun _ _ => rfl)) pa_nil)) (pe_lst pa_nil) (nomark _))
  (pss_one (ps_ret (pv 4)))
  pss_nil)))))))
  (pss_one (ps_ret (pe_ifExp (pt_cmpR (op_neNil hr.units) (pv 3) (pe_lst pa_nil) (nomark _)) (pe_callB call_len_seq (by rfl) T.b_len (by decide +kernel) (pa_cons (pv 0) pa_nil)) pe_non)))))), ?_⟩
    refine fun o no => ?_
    refine ⟨upd_same, sizesK, rfl, (by show 8 ≤ 15; decide), ?_⟩
    rw [show mergeK [] sizesK = sizesK from by kernel_rfl]
    refine ⟨_, rfl, [113], rfl, by decide, fun wl nwl => ?_⟩
    have ed : (L2.upd (L2.upd H o (.dK [])) o (.dK sizesK)) o = some (.dK sizesK) := upd_same
    have s0 : Same H (L2.upd (L2.upd H o (.dK [])) o (.dK sizesK)) := fun b u e => (upd_ne (ne_of_none e no)).trans ((upd_ne (ne_of_none e no)).trans e)
    have wlo : wl ≠ o := fun e => by
      rw [e, ed] at nwl
      cases nwl
    have Hwl : H wl = none := s0.free nwl
    have s1 := s0.upd' (o := .lst (signsV [113])) nwl
    refine ⟨_, rfl, wp, _, rfl, .inl (s1.seq hw), ?_⟩
    have lenw : (ws.map fun l => V.str (S l)).length = ws.length := List.length_map ..
    rw [lenw]
    refine ⟨_, rfl, by omega, by omega, ?_⟩
    refine for_it (walk_range (lo := 0)) (fun i σ H' => ∃ (wants : List Bool) (wl : Addr) (x4 x5 : Option V), σ = [some (.ref wp), some (.str "q"), some (.ref o), some (.ref wl), x4, x5] ∧ Same H H' ∧ H wl = none ∧ wl ≠ o ∧
      H' wl = some (.lst (signsV (wants.map wS))) ∧ H' o = some (.dK sizesK) ∧ wants.length ≤ 3 * i + 1 ∧ rdW [true] ws 0 = rdW wants (ws.drop i) i) ⟨[true], wl, _, _, rfl, s1, Hwl, wlo, upd_same, (upd_ne (Ne.symm wlo)).trans ed, by decide, rfl⟩ (fun _ _ _ _ _ => True.intro) ?_ ?_
    · rintro i x σ H1' H2 hi ⟨wants, wl, x4, x5, rfl, s2, nwl, wlo, hwl, ho, lwt, erd⟩ ⟨rfl, rfl⟩
      have e0 : (0 : Int) + (i : Int) = (i : Int) := by omega
      have hw2 := s2.seq hw
      obtain ⟨l, hl⟩ : ∃ l, ws[i]? = some l := ⟨_, List.getElem?_eq_getElem hi⟩
      have hd : ws.drop i = l :: ws.drop (i + 1) := by
        rw [List.drop_eq_getElem_cons hi, ← (List.getElem?_eq_some_iff.mp hl).2]
      have hlv : (ws.map fun l => V.str (S l))[i]? = some (V.str (S l)) := by rw [List.getElem?_map, hl]; rfl
      have l10 := ll l (List.mem_of_getElem? hl)
      rw [hd] at erd
      refine ⟨_, rfl, (by show 0 ≤ sizeLine; decide), fun q nq => ?_⟩
      have sq := Same.upd (H := H2) (o := .lst []) nq
      refine ⟨_, _, _, _, rfl, rfl, SqL.of (sq _ _ hwl), signs_iss _, SqL.of upd_same, _, rfl, ?_⟩
      refine ite2 (fun c => ?_) (fun c => ?_)
      · have c := of_decide_eq_true c
        have wn : wants = [] := by
          unfold signsV at c
          exact List.map_eq_nil_iff.mp (List.map_eq_nil_iff.mp c)
        subst wn
        refine ⟨_, rfl, ?_⟩
        have := k _ (s2.trans sq)
        rw [erd] at this
        show Q (.int (0 + (i : Int))) _
        rw [e0]
        exact this
      cases wants with
      | nil => exact absurd rfl (fun z => c (decide_eq_true z))
      | cons w0 wants =>
      have hwl1 := sq _ _ hwl
      have ho1 := sq _ _ ho
      have hwq := s2.trans sq
      refine ⟨_, rfl, .inl ⟨rfl, _, SqL.of hwl1⟩, wl, _, 0, 0, .str ⟨#[wS w0]⟩, rfl, rfl, hwl1, by decide, by decide, PySem.seqIndex_of (by decide) (by unfold signsV; rw [List.length_map, List.length_map, List.length_cons]; omega), rfl, ?_⟩
      have hw3 : SqL K (L2.upd (L2.upd H2 q (.lst [])) wl (.lst (signsV (wants.map wS)))) wp (ws.map fun l => V.str (S l)) := (hwq.put nwl).seq hw
      have ho3 : (L2.upd (L2.upd H2 q (.lst [])) wl (.lst (signsV (wants.map wS)))) o = some (.dK sizesK) := (upd_ne (Ne.symm wlo)).trans ho1
      have s3 : Same H (L2.upd (L2.upd H2 q (.lst [])) wl (.lst (signsV (wants.map wS)))) := hwq.put nwl
      have hwl3 : (L2.upd (L2.upd H2 q (.lst [])) wl (.lst (signsV (wants.map wS)))) wl = some (.lst (signsV (wants.map wS))) := upd_same
      refine ⟨_, rfl, rfl, _, rfl, ?_⟩
      rw [signs_q]
      refine ite2 (fun c => ?_) (fun c => ?_)
      · subst c
        refine ⟨_, rfl, _, rfl, wp, _, _, _, rfl, rfl, hw3, at_of e0 hlv, _, rfl, o, _, rfl, DGet.k (k := (.inr (S l) : Key)) ho3, ?_⟩
        rw [sizes_get]
        have erd : rdW [true] ws 0 = (match kindsOf l with | none => some i | some ks => rdW (ks ++ wants) (ws.drop (i + 1)) (i + 1)) := erd
        cases hk : kindsOf l with
        | none =>
          rw [hk] at erd
          refine ⟨_, rfl, ite2 (fun _ => ⟨_, rfl, ?_⟩) (fun z => absurd rfl z)⟩
          have := k _ s3
          rw [erd] at this
          show Q (.int (0 + (i : Int))) _
          rw [e0]
          exact this
        | some qs =>
          rw [hk] at erd
          refine ⟨_, rfl, ite2 (fun z => Bool.noConfusion (show false = true from z)) (fun _ => ?_)⟩
          have q3 := (kinds_val hk).2.1
          refine ⟨_, rfl, _, rfl, _, rfl, wp, _, _, _, rfl, rfl, hw3, at_of e0 hlv, o, .str (S (qs.map wS)), rfl, ?_, ?_⟩
          · have := DGet.k (k := (.inr (S l) : Key)) ho3
            rw [sizes_get, hk] at this
            exact this
          refine ⟨_, rfl, by rw [List.length_map]; omega, fun p np => ?_⟩
          have hwl4 := Same.upd (o := .lst (signsV (qs.map wS))) np _ _ hwl3
          have s4 := s3.upd' (o := .lst (signsV (qs.map wS))) np
          refine ⟨_, rfl, p, wl, _, _, rfl, rfl, upd_same, hwl4, ?_, fun p2 np2 => ?_⟩
          · have : sizeLine = 16777216 := sizeLine_eq
            rw [List.length_cons] at lwt
            unfold signsV
            rw [List.length_map, List.length_map, List.length_map, List.length_map]
            omega
          have s5 := s4.upd' (o := .lst (signsV (qs.map wS) ++ signsV (wants.map wS))) np2
          have ho4 := Same.upd (o := .lst (signsV (qs.map wS))) np _ _ ho3
          refine ⟨qs ++ wants, p2, _, _, rfl, s5, s4.free np2, fun e => ?_, ?_, Same.upd np2 _ _ ho4, ?_, erd⟩
          · rw [e, ho4] at np2
            cases np2
          · unfold signsV
            rw [List.map_append, List.map_append]
            exact upd_same
          · rw [List.length_cons] at lwt
            rw [List.length_append]
            omega
      · have c : w0 = false := by simpa using c
        subst c
        have erd : rdW [true] ws 0 = (if (valW l).isSome then rdW wants (ws.drop (i + 1)) (i + 1) else some i) := erd
        refine ⟨_, rfl, _, rfl, wp, _, _, _, rfl, rfl, hw3, at_of e0 hlv, l, rfl, l10, fun H4 p s4 np hp => ?_⟩
        refine ⟨(by show 0 ≤ sizeLine; decide), fun p2 np2 => ?_⟩
        have s5 := s4.upd' (o := .lst []) np2
        refine ⟨_, _, _, _, rfl, rfl, SqL.of (Same.upd np2 _ _ hp), vl_iss _, SqL.of upd_same, _, rfl, ?_⟩
        refine ite2 (fun c => ?_) (fun c => ?_)
        · have c := List.map_eq_nil_iff.mp (of_decide_eq_true c)
          have hv : (valW l).isSome = false := by
            cases e : valW l with
            | none => rfl
            | some x =>
              rw [e] at c
              cases c
          rw [hv] at erd
          refine ⟨_, rfl, ?_⟩
          have := k _ (s3.trans s5)
          rw [erd] at this
          show Q (.int (0 + (i : Int))) _
          rw [e0]
          exact this
        · have hv : (valW l).isSome = true := by
            cases e : valW l with
            | none =>
              refine absurd (decide_eq_true ?_) c
              rw [e]
              rfl
            | some x => rfl
          rw [hv] at erd
          refine ⟨wants, wl, _, _, rfl, s3.trans s5, nwl, wlo, s5 _ _ hwl3, s5 _ _ ho3, ?_, erd⟩
          rw [List.length_cons] at lwt
          omega
    · rintro σ H2 ⟨wants, wl, x4, x5, rfl, s2, nwl, wlo, hwl, ho, lwt, erd⟩
      rw [show ((ws.length : Int)).toNat = ws.length by omega, List.drop_length] at erd
      refine ⟨_, rfl, (by show 0 ≤ sizeLine; decide), fun q nq => ?_⟩
      have sq := Same.upd (H := H2) (o := .lst []) nq
      refine ⟨_, _, _, _, rfl, rfl, SqL.of (sq _ _ hwl), signs_iss _, SqL.of upd_same, _, rfl, ?_⟩
      have := k _ (s2.trans sq)
      rw [erd] at this
      cases wants with
      | nil => exact ite2 (fun z => absurd z (by decide)) (fun _ => this)
      | cons w0 wants =>
        refine ite2 (fun _ => ⟨_, rfl, wp, _, rfl, .inl ((s2.trans sq).seq hw), ?_⟩) (fun z => absurd rfl z)
        rw [lenw]
        cases w0 <;> exact this
abbrev s__law_made : Stmt := top 60
abbrev N__law_made : List Str := ["_law_words", "_law_sizes", "_law_found", "_law_want"]
abbrev P__law_made : List Str := ["_law_words"]
theorem sc__law_made : FnScope N__law_made P__law_made (defScope s__law_made) := ⟨rfl, rfl, rfl, by decide +kernel, rfl, by decide +kernel, by decide +kernel⟩
/-- all but the list at w stays -/
def SameX (w : Addr) (H H' : Hp) : Prop := ∀ b o, b ≠ w → H b = some o → H' b = some o
theorem SameX.trans {w : Addr} {H H1 H2 : Hp} (a : SameX w H H1) (b : SameX w H1 H2) : SameX w H H2 := fun c o n e => b c o n (a c o n e)
theorem SameX.of {w : Addr} {H H' : Hp} (a : Same H H') : SameX w H H' := fun c o _ e => a c o e
theorem SameX.smT {w : Addr} {H H' : Hp} {xs : List V} (a : SameX w H H') (h : H w = some (.lst xs)) : SmT H H' := fun c o e k => by
  refine a c o (fun z => ?_) e
  rw [z, h] at e
  cases e
  rcases k with ⟨ys, k⟩ | ⟨ob, ys, k⟩ <;> cases k
theorem SameX.put {w : Addr} {H : Hp} {o : HO} : SameX w H (L2.upd H w o) := fun c u n e => (upd_ne n).trans e
theorem SameX.free {w q : Addr} {H H' : Hp} (a : SameX w H H') (n : H' q = none) (ne : q ≠ w) : H q = none := by
  cases e : H q with
  | none => rfl
  | some o =>
    rw [a q o ne e] at n
    cases n
abbrev wordsV (ws : List (List Nat)) : List V := ws.map fun l => V.str (S l)
def spMade (K : PySem.W.Frag) (n : Nat) : Sp := fun vs H Q _ => ∃ (wp : Addr) (us rest : List (List Nat)) (d : Dat), vs = [.ref wp] ∧ H wp = some (.lst (wordsV (us ++ rest))) ∧ Fo [true] us [d] n ∧ (∀ l ∈ us ++ rest, l.length ≤ 10000) ∧
  ∀ H' v, SameX wp H H' → H' wp = some (.lst (wordsV rest)) → Is K H' v d → Q v H'
theorem ok_made2 (T : Txt mg) (D0 : Df K mg "_law_made" s__law_made P__law_made) (G__law_value_of : Fn P w K mg base CX0 1 "_law_value_of" P__law_value_of spVal) : ∀ n, Fn P w K mg base CX0 (2 + n) "_law_made" P__law_made (spMade K n) := by
  have gen : ∀ n, Fn P w K mg base CX0 (1 + n) "_law_made" P__law_made (fun vs H Q E => ∃ m, n = m + 1 ∧ spMade K m vs H Q E) → Fn P w K mg base CX0 (1 + n + 1) "_law_made" P__law_made (spMade K n) := fun n G_made => by
    refine D0.ok sc__law_made (fun vs H Q E h => ?_) (fun f cdv A outer s H vs Q E hr h => ?_)
    · obtain ⟨wp, us, rest, d, rfl, _⟩ := h
      rfl
    · obtain ⟨wp, us, rest, d, rfl, hw, fo, ll, k⟩ := h
      have nd := sc__law_made.nd
      have hr1 := hr.mono (show 1 ≤ 1 + n by omega)
      refine ⟨_, (pss_cons (ps_set (i := 1) nd rfl (by first | exact Or.inl rfl | exact Or.inr rfl) (pe_disp (pps_cons pe_str pe_str (pps_cons pe_str pe_str (pps_cons pe_str pe_str (pps_cons pe_str pe_str (pps_cons pe_str pe_str (pps_cons pe_str pe_str (pps_cons pe_str pe_str (pps_cons pe_str pe_str pps_nil)))))))) (by rfl) (by rfl) (fun z => by cases z) (by decide)))
  (pss_cons (ps_set (i := 2) nd rfl (by first | exact Or.inl rfl | exact Or.inr rfl) (pe_lst (pa_cons (pe_bm PySem.F.plainAttrs_list PySem.F.slot_list_pop PySem.F.type_list_pop mt_popAt (pv 0) (pa_cons pe_int pa_nil)) pa_nil)))
  (pss_cons (ps_for PassesOwn.never rfl (pi_str (pe_dget (hu_of hr) (pv 1) (pe_ix ix_list (pv 2) pe_int (fun _ _ => rfl)) (fun _ _ => rfl))) (pg_name (i := 3) nd rfl (by first | exact Or.inl rfl | exact Or.inr rfl))
  (pss_one (ps_expr (pe_bm PySem.F.plainAttrs_list PySem.F.slot_list_append PySem.F.type_list_append mt_append (pv 2) (pa_cons (pe_ifExp (pt_cmpR op_eq (pv 3) pe_str (nomark _)) (pe_c G_made hr pass0 (pa_cons (pv 0) pa_nil)) (pe_ix ix_list (pe_c G__law_value_of hr1 pass0 (pa_cons (pe_bm PySem.F.plainAttrs_list PySem.F.slot_list_pop PySem.F.type_list_pop mt_popAt (pv 0) (pa_cons pe_int pa_nil)) pa_nil)) pe_int (fun _ _ => rfl))) pa_nil)))))
  (pss_one (ps_ret (pe_callTy call_tuple_of (by rfl) T.b_tuple (by decide +kernel) (pa_cons (pv 2) pa_nil))))))), ?_⟩
      cases fo with
      | @node z qs ks us1 ws1 es ds n hk fa fr =>
      cases fr
      refine fun o no => ?_
      refine ⟨upd_same, sizesK, rfl, (by show 8 ≤ 15; decide), ?_⟩
      rw [show mergeK [] sizesK = sizesK from by kernel_rfl]
      have ed : (L2.upd (L2.upd H o (.dK [])) o (.dK sizesK)) o = some (.dK sizesK) := upd_same
      have s0 : Same H (L2.upd (L2.upd H o (.dK [])) o (.dK sizesK)) := fun b u e => (upd_ne (ne_of_none e no)).trans ((upd_ne (ne_of_none e no)).trans e)
      have owp : o ≠ wp := fun e => by
        rw [e, hw] at no
        cases no
      have idx0 : ∀ {α : Type} (x : α) (xs : List α), seqIndex? 0 (x :: xs).length = some 0 := fun x xs => PySem.seqIndex_of (by decide) (by rw [List.length_cons]; omega)
      refine ⟨_, rfl, .inl ⟨rfl, _, SqL.of (s0 _ _ hw)⟩, wp, _, 0, 0, .str (S z), rfl, rfl, s0 _ _ hw, by decide, by decide, idx0 _ _, rfl, (by show 1 ≤ sizeLine; decide), fun fd nfd => ?_⟩
      have e1 : (wordsV ((z :: (us1 ++ [])) ++ rest)).eraseIdx 0 = wordsV (us1 ++ rest) := by
        rw [List.append_nil]
        rfl
      rw [e1] at nfd ⊢
      have fdwp : fd ≠ wp := fun e => by
        rw [e, upd_same] at nfd
        cases nfd
      have nfd1 : (L2.upd (L2.upd H o (.dK [])) o (.dK sizesK)) fd = none := (upd_ne fdwp).symm.trans nfd
      have fdo : fd ≠ o := fun e => by
        rw [e, ed] at nfd1
        cases nfd1
      have nfd0 : H fd = none := s0.free nfd1
      have hwp : (L2.upd (L2.upd (L2.upd (L2.upd H o (.dK [])) o (.dK sizesK)) wp (.lst (wordsV (us1 ++ rest)))) fd (.lst [V.str (S z)])) wp = some (.lst (wordsV (us1 ++ rest))) := (upd_ne (Ne.symm fdwp)).trans upd_same
      have hoo : (L2.upd (L2.upd (L2.upd (L2.upd H o (.dK [])) o (.dK sizesK)) wp (.lst (wordsV (us1 ++ rest)))) fd (.lst [V.str (S z)])) o = some (.dK sizesK) := (upd_ne (Ne.symm fdo)).trans ((upd_ne owp).trans ed)
      have sx : SameX wp H (L2.upd (L2.upd (L2.upd (L2.upd H o (.dK [])) o (.dK sizesK)) wp (.lst (wordsV (us1 ++ rest)))) fd (.lst [V.str (S z)])) :=
        ((SameX.of s0).trans .put).trans (.of (Same.upd nfd))
      refine ⟨_, rfl, _, rfl, fd, _, _, _, rfl, rfl, SqL.of upd_same, at_of (z := 0) (j := 0) rfl rfl, o, .str (S (qs.map wS)), rfl, ?_, ?_⟩
      · have := DGet.k (k := (.inr (S z) : Key)) hoo
        rw [sizes_get, hk] at this
        exact this
      refine ⟨_, rfl, ?_⟩
      have lq : (S (qs.map wS)).length = qs.length := by rw [S_len, List.length_map]
      refine for_it walk_str (fun i σ H' => ∃ (vs : List (List Nat)) (xs : List V) (x3 : Option V), σ = [some (.ref wp), some (.ref o), some (.ref fd), x3] ∧ SameX wp H H' ∧ H' wp = some (.lst (wordsV (vs ++ rest))) ∧
        H' fd = some (.lst (V.str (S z) :: xs)) ∧ Fo (qs.drop i) vs (es.drop i) n ∧ Iss K H' xs (es.take i) ∧ (∀ l ∈ vs ++ rest, l.length ≤ 10000)) ⟨us1, [], _, rfl, sx, hwp, upd_same, fa, .nil, fun l hl => ll l ?_⟩ (fun _ _ _ _ _ => True.intro) ?_ ?_
      · rw [List.append_nil, List.cons_append]
        exact List.mem_cons_of_mem _ hl
      · rintro i x σ H1' H2 hi ⟨vs, xs, x3, rfl, sx2, hwp2, hfd2, fo2, iss2, ll2⟩ ⟨rfl, c, hc, rfl⟩
        have hi' : i < qs.length := by
          rw [← lq]
          exact hi
        obtain ⟨q, hq⟩ : ∃ q, qs[i]? = some q := ⟨_, List.getElem?_eq_getElem hi'⟩
        have hdq : qs.drop i = q :: qs.drop (i + 1) := by
          rw [List.drop_eq_getElem_cons hi', ← (List.getElem?_eq_some_iff.mp hq).2]
        have ec : c = wS q := by
          have : (qs.map wS)[i]? = some c := by
            have hc : (qs.map wS).toArray[i]? = some c := hc
            rwa [List.getElem?_toArray] at hc
          rw [List.getElem?_map, hq] at this
          exact (Option.some.inj this).symm
        subst ec
        have les := fa.len
        obtain ⟨d, hd⟩ : ∃ d, es[i]? = some d := ⟨_, List.getElem?_eq_getElem (by omega)⟩
        have hde : es.drop i = d :: es.drop (i + 1) := by
          rw [List.drop_eq_getElem_cons (by omega), ← (List.getElem?_eq_some_iff.mp hd).2]
        rw [hdq, hde] at fo2
        have tk : es.take (i + 1) = es.take i ++ [d] := by rw [List.take_succ, hd]; rfl
        have lx : xs.length ≤ 3 := by
          have := iss2.1
          rw [List.length_take] at this
          have := (kinds_val hk).2.1
          omega
        -- the part's value, appended
        have fin : ∀ (H3 : Hp) (v : V) (vs3 : List (List Nat)), SameX wp H2 H3 → H3 wp = some (.lst (wordsV (vs3 ++ rest))) → Is K H3 v d → Fo (qs.drop (i + 1)) vs3 (es.drop (i + 1)) n → (∀ l ∈ vs3 ++ rest, l.length ≤ 10000) →
            ∃ l xs0 y, V.ref fd = .ref l ∧ [v] = [y] ∧ H3 l = some (.lst xs0) ∧ xs0.length < sizeLine ∧ (∃ (vs : List (List Nat)) (xs : List V) (x3' : Option V), [some (V.ref wp), some (.ref o), some (.ref fd), some (V.str ⟨#[wS q]⟩)] = [some (.ref wp), some (.ref o), some (.ref fd), x3'] ∧ SameX wp H (L2.upd H3 l (.lst (xs0 ++ [y]))) ∧ (L2.upd H3 l (.lst (xs0 ++ [y]))) wp = some (.lst (wordsV (vs ++ rest))) ∧
              (L2.upd H3 l (.lst (xs0 ++ [y]))) fd = some (.lst (V.str (S z) :: xs)) ∧ Fo (qs.drop (i + 1)) vs (es.drop (i + 1)) n ∧ Iss K (L2.upd H3 l (.lst (xs0 ++ [y]))) xs (es.take (i + 1)) ∧ (∀ l ∈ vs ++ rest, l.length ≤ 10000)) := by
          intro H3 v vs3 sx3 hw3 iv fo3 ll3
          have sm3 := sx3.smT hwp2
          have hfd3 := sx3 _ _ fdwp hfd2
          have sm4 : SmT H3 (L2.upd H3 fd (.lst (V.str (S z) :: xs ++ [v]))) := SmT.chg hfd3 .lst
          refine ⟨fd, _, v, rfl, rfl, hfd3, by rw [List.length_cons, sizeLine_eq]; omega, vs3, xs ++ [v], _, rfl, ?_, (upd_ne (Ne.symm fdwp)).trans hw3, upd_same, fo3, ?_, ll3⟩
          · exact fun b u n e => (upd_ne fun y => by
              rw [y, nfd0] at e
              cases e).trans (sx3 b u n (sx2 b u n e))
          · rw [tk]
            exact (iss2.keep (sm3.trans sm4)).app (.cons (iv.keep sm4) .nil)
        refine ⟨_, rfl, .inl ⟨rfl, _, SqL.of hfd2⟩, ?_⟩
        refine ⟨_, rfl, rfl, _, rfl, ?_⟩
        rw [signs_q]
        refine ite2 (fun c => ?_) (fun c => ?_)
        · subst c
          obtain ⟨us2, vs3, es1, fs, rfl, ee, fa1, fr1⟩ := Fo.split (js := [true]) fo2
          obtain ⟨d1, rfl⟩ : ∃ d1, es1 = [d1] := List.length_eq_one_iff.mp fa1.len
          obtain ⟨rfl, rfl⟩ : d = d1 ∧ es.drop (i + 1) = fs := by
            injection ee with a b
            exact ⟨a, b⟩
          rw [List.append_assoc] at hwp2 ll2
          exact ⟨_, rfl, n, rfl, wp, us2, vs3 ++ rest, d, rfl, hwp2, fa1, ll2, fun H3 v sx3 hw3 iv => fin H3 v vs3 sx3 hw3 iv fr1 fun l hl => ll2 l (List.mem_append_right _ hl)⟩
        · have c : q = false := by simpa using c
          subst c
          cases fo2 with
          | @val w x ks ws ds n hv fr1 =>
          have wlen := ll2 w List.mem_cons_self
          have hwp3 : H2 wp = some (.lst (V.str (S w) :: wordsV (ws ++ rest))) := hwp2
          refine ⟨_, rfl, .inl ⟨rfl, _, SqL.of hwp3⟩, wp, _, 0, 0, .str (S w), rfl, rfl, hwp3, by decide, by decide, idx0 _ _, rfl, ?_⟩
          refine ⟨w, rfl, wlen, fun H3 p s3 np hp => ?_⟩
          rw [hv] at hp
          refine ⟨p, _, _, x.v, rfl, rfl, SqL.of hp, at_of (z := 0) (j := 0) rfl rfl, ?_⟩
          exact fin H3 x.v ws (SameX.put.trans (.of s3)) (s3 _ _ upd_same) x.is fr1 fun l hl => ll2 l (List.mem_cons_of_mem _ hl)
      · rintro σ H2 ⟨vs, xs, x3, rfl, sx2, hwp2, hfd2, fo2, iss2, ll2⟩
        have lq2 : (S (qs.map wS)).cps.size = qs.length := lq
        rw [lq2, List.drop_length] at fo2
        rw [lq2, ← fa.len, List.take_length] at iss2
        rw [← fa.len, List.drop_length] at fo2
        cases fo2
        refine ⟨_, rfl, fd, _, rfl, .inl ⟨SqL.of hfd2, fun p np => ?_⟩⟩
        have sp := Same.upd (o := .tup (V.str (S z) :: xs)) np
        refine k _ _ (sx2.trans (.of sp)) (sp _ _ hwp2) ?_
        refine Is.tup (SqT.of upd_same) (by rw [List.length_cons, List.length_cons, iss2.1]) fun i x d a b => ?_
        exact ((Iss.cons (.str (S z)) (iss2.same sp)).2 i x d a b)
  intro n
  induction n with
  | zero => exact gen 0 (D0.void.imp fun vs H Q E ⟨m, z, _⟩ => by cases z)
  | succ n ih =>
    have := gen (n + 1) (by
      rw [show 1 + (n + 1) = 2 + n by omega]
      exact ih.imp fun vs H Q E ⟨m, z, hh⟩ => by
        cases z
        exact hh)
    rw [show 2 + (n + 1) = 1 + (n + 1) + 1 by omega]
    exact this
end
end K3

set_option Elab.async false
set_option linter.all false
set_option maxRecDepth 100000
set_option maxHeartbeats 4000000
/-! KTc: conditions counted by the law -/
namespace K3
open PySem PySem.Spec PyProof.Rows L2 SX
theorem kinds_case {z : List Nat} {qs : List Bool} (h : kindsOf z = some qs) : ∃ ps, partsOf (S z) = some ps ∧ ps.length = qs.length ∧
    ((inV (.str (S z)) [V.str "not", .str "and", .str "or"] = true ∧ condS ∈ ps ∧ ∀ q ∈ qs, q = true) ∨
     (inV (.str (S z)) [V.str "not", .str "and", .str "or"] = false ∧ condS ∉ ps ∧ (∀ q ∈ qs, q = false) ∧ ((S z = "all" ∧ qs = []) ∨ (S z ≠ "all" ∧ 2 ≤ qs.length)))) := by
  unfold kindsOf at h
  cases hp : partsOf (S z) with
  | none =>
    rw [hp] at h
    cases h
  | some ps =>
    rw [hp] at h
    have h : some (ps.map fun p => decide (p = condS)) = some qs := h
    cases h
    refine ⟨ps, rfl, (List.length_map _).symm, ?_⟩
    generalize S z = y at hp ⊢
    unfold partsOf partsT at hp
    simp only [List.lookup] at hp
    repeat' split at hp
    all_goals first
      | (cases hp; done)
      | (cases hp
         rename_i e
         have e := eq_of_beq e
         subst e
         first
           | exact .inl ⟨by decide +kernel, by decide +kernel, by decide +kernel⟩
           | exact .inr ⟨by decide +kernel, by decide +kernel, by decide +kernel, .inl ⟨rfl, rfl⟩⟩
           | exact .inr ⟨by decide +kernel, by decide +kernel, by decide +kernel, .inr ⟨by decide +kernel, by decide +kernel⟩⟩)
def VlGood : Vl → Prop
  | .num i => -9999 ≤ i ∧ i ≤ 9999
  | .wrd l => Lw l
def Vl.isW : Vl → Bool
  | .num _ => false
  | .wrd _ => true
theorem valW_good {l : List Nat} {x : Vl} (h : valW l = some x) : VlGood x := by
  rcases valW_eq h with ⟨r, _, rfl, g⟩ | ⟨g, rfl, _⟩
  · exact g
  · obtain ⟨_, h1, h2, _⟩ := fig_int g
    exact ⟨h1, h2⟩
theorem fo_vals {qs : List Bool} {us : List (List Nat)} {es : List Dat} {n : Nat} (f : Fo qs us es n) : (∀ q ∈ qs, q = false) → ∃ xs : List Vl, es = xs.map Vl.dat ∧ (∀ x ∈ xs, VlGood x) ∧ xs.length = qs.length := by
  induction f with
  | nil => exact fun _ => ⟨[], rfl, (fun x h => nomatch h), rfl⟩
  | val h r ih =>
    intro a
    obtain ⟨xs, rfl, g, l⟩ := ih fun q hq => a q (List.mem_cons_of_mem _ hq)
    refine ⟨_ :: xs, rfl, fun x hx => ?_, by rw [List.length_cons, List.length_cons, l]⟩
    rcases List.mem_cons.mp hx with rfl | hx
    · exact valW_good h
    · exact g x hx
  | node h _ _ _ _ =>
    intro a
    exact absurd (a true List.mem_cons_self) (by decide)
theorem fo_each : ∀ {qs : List Bool} {us : List (List Nat)} {es : List Dat} {n : Nat}, Fo qs us es n → (∀ q ∈ qs, q = true) → ∀ d ∈ es, ∃ us, Fo [true] us [d] n
  | [], us, es, n, f, _ => by
    cases f
    exact fun d h => nomatch h
  | q :: qs, us, es, n, f, a => by
    obtain rfl := a q List.mem_cons_self
    cases f with
    | node h fa fr =>
      intro d hd
      rcases List.mem_cons.mp hd with rfl | hd
      · exact ⟨_, .node h fa .nil⟩
      · exact fo_each fr (fun q hq => a q (List.mem_cons_of_mem _ hq)) d hd
theorem valB_good {w : Bool} {x : Vl} (h : VlGood x) : valB w x.dat = decide (x.isW = w) := by
  cases x with
  | num i =>
    show (!w && decide (-9999 ≤ i ∧ i ≤ 9999)) = decide (false = w)
    have h : -9999 ≤ i ∧ i ≤ 9999 := h
    rw [decide_eq_true h]
    cases w <;> rfl
  | wrd l =>
    show (w && (decide ((S l).length ≤ 6) && ltrB l)) = decide (true = w)
    have h1 : ltrB l = true := List.all_eq_true.mpr fun c hc => decide_eq_true (h.2 c hc)
    rw [h1, decide_eq_true (by rw [S_len]; exact h.1)]
    cases w <;> rfl
/-- what the law counts against what the program does -/
def CntOk (ks : List Bool) (n : Nat) (d : Dat) (c : Int) : Prop := (∀ m, manyD ks n d = some m → c = (m : Nat)) ∧ (manyD ks n d = none → 99 ≤ c) ∧ 1 ≤ c
theorem cnt_good {ks : List Bool} {d : Dat} {c : Int} (h : CntOk ks 8 d c) : decide (c ≤ 15) = goodD ks d := by
  unfold goodD
  cases e : manyD ks 8 d with
  | none =>
    have := h.2.1 e
    exact decide_eq_false (by omega)
  | some m =>
    have := h.1 m e
    subst this
    exact decide_eq_decide.mpr (by omega)
theorem many_eq {ks : List Bool} {n : Nat} {z : Str} {ps : List Str} {ds : List Dat} (hp : partsOf z = some ps) (hl : ds.length = ps.length) : manyD ks (n + 1) (.tup (.str z :: ds)) = (if condS ∈ ps then (ds.foldr (fun d acc => (manyD ks n d).bind fun a => acc.map fun b => a + b) (some 0)).map fun b => 1 + b else if valsB ks z ds = true then some 1 else none) := by
  show (match partsOf z with
    | none => none
    | some ps => if ds.length = ps.length then (if condS ∈ ps then (ds.foldr (fun d acc => (manyD ks n d).bind fun a => acc.map fun b => a + b) (some 0)).map fun b => 1 + b else if valsB ks z ds = true then some 1 else none) else none) = _
  rw [hp]
  show (if ds.length = ps.length then _ else none) = _
  rw [if_pos hl]
theorem call_isiK {X : Cx} {K : PySem.W.Frag} (e : X.K = K) : CallR X (.builtin "isinstance") (rIsi K) := by
  subst e
  exact call_isi
theorem cnt_sum {ks : List Bool} {n : Nat} : ∀ {ds : List Dat} {cs : List Int}, ds.length = cs.length → (∀ (j : Nat) (d : Dat) (c : Int), ds[j]? = some d → cs[j]? = some c → CntOk ks n d c) →
    (∀ t : Nat, ds.foldr (fun d acc => (manyD ks n d).bind fun a => acc.map fun b => a + b) (some 0) = some t → cs.sum = (t : Nat)) ∧ (ds.foldr (fun d acc => (manyD ks n d).bind fun a => acc.map fun b => a + b) (some 0) = none → 99 ≤ cs.sum) ∧ 0 ≤ cs.sum
  | [], [], _, _ => ⟨(fun t h => by cases h; rfl), (fun h => nomatch h), Int.le_refl _⟩
  | [], _ :: _, h, _ => by cases h
  | _ :: _, [], h, _ => by cases h
  | d :: ds, c :: cs, h, g => by
    obtain ⟨h1, h2, h3⟩ := cnt_sum (ds := ds) (cs := cs) (Nat.succ.inj h) fun j d c a b => g (j + 1) d c a b
    obtain ⟨g1, g2, g3⟩ := g 0 d c rfl rfl
    rw [List.foldr_cons, List.sum_cons]
    cases e : manyD ks n d with
    | none =>
      have := g2 e
      refine ⟨(fun t h => nomatch h), fun _ => by omega, by omega⟩
    | some a =>
      have := g1 a e
      cases e2 : ds.foldr (fun d acc => (manyD ks n d).bind fun a => acc.map fun b => a + b) (some 0) with
      | none =>
        have := h2 e2
        refine ⟨(fun t h => nomatch h), fun _ => by omega, by omega⟩
      | some b =>
        have := h1 b e2
        refine ⟨fun t h => ?_, (fun h => nomatch h), by omega⟩
        have h : some (a + b) = some t := h
        cases h
        omega
theorem isD_bools {K : PySem.W.Frag} {H : Hp} {p : Addr} {ns : List Bool} (hp : SqL K H p (ns.map V.bl)) : IsD K H (.ref p) ns := Dp.lst hp (al ns)
where
  al : ∀ ns : List Bool, DpAll K H (ns.map V.bl) (ns.map PySem.W.Datum.toD)
    | [] => .nil
    | b :: r => .cons (.bl b) (al r)
theorem vals_words {w : Bool} : ∀ {xs : List Vl}, (∀ x ∈ xs, VlGood x) → (xs.map Vl.dat).all (valB w) = decide (xs.map Vl.isW = List.replicate xs.length w)
  | [], _ => rfl
  | x :: xs, g => by
    rw [List.map_cons, List.map_cons, List.all_cons, valB_good (g x List.mem_cons_self), vals_words fun y hy => g y (List.mem_cons_of_mem _ hy), ← Bool.decide_and]
    refine decide_eq_decide.mpr ?_
    rw [List.length_cons, List.replicate_succ, List.cons.injEq]
section
variable {P : Program} {w : World} {K : PySem.W.Frag} {mg : Str → Option Value} {base : Heap}
abbrev s__law_count : Stmt := top 61
abbrev N__law_count : List Str := ["_law_kinds_here", "_law_condition_here", "_law_deep", "_law_inner", "_law_column", "_law_words", "_law_value_here", "_law_good"]
abbrev P__law_count : List Str := ["_law_kinds_here", "_law_condition_here", "_law_deep"]
theorem sc__law_count : FnScope N__law_count P__law_count (defScope s__law_count) := ⟨rfl, rfl, rfl, by decide +kernel, rfl, by decide +kernel, by decide +kernel⟩
def spCnt (K : PySem.W.Frag) (n : Nat) : Sp := fun vs H Q _ => ∃ (kp : Addr) (v : V) (ks : List Bool) (d : Dat) (us : List (List Nat)) (m : Nat), vs = [.ref kp, v, .int (8 - (n : Int))] ∧ SqT K H kp (ks.map kdV) ∧ ks.length ≤ 4 ∧ Is K H v d ∧ Fo [true] us [d] m ∧
  ∀ H' c, Same H H' → CntOk ks n d c → Q (.int c) H'
theorem ok_count2 (T : Txt mg) (T4 : Txt4 mg) (D0 : Df K mg "_law_count" s__law_count P__law_count) : ∀ n, n ≤ 8 → Fn P w K mg base CX0 (1 + n) "_law_count" P__law_count (spCnt K n) := by
  have gen : ∀ n, n ≤ 8 → Fn P w K mg base CX0 n "_law_count" P__law_count (fun vs H Q E => ∃ m, n = m + 1 ∧ spCnt K m vs H Q E) → Fn P w K mg base CX0 (n + 1) "_law_count" P__law_count (spCnt K n) := fun n n8 G_count => by
    refine D0.ok sc__law_count (fun vs H Q E h => ?_) (fun f cdv A outer s H vs Q E hr h => ?_)
    · obtain ⟨kp, v, ks, d, us, m, rfl, _⟩ := h
      rfl
    · obtain ⟨kp, v, ks, d, us, m, rfl, hkp, k4, iv, fo, k⟩ := h
      have nd := sc__law_count.nd
      refine ⟨_, (pss_cons (ps_if (pt_cmpR op_gt (pv 2) pe_int (nomark _))
  (pss_one (ps_ret pe_int))
  pss_nil)
  (pss_cons (ps_if (pt_cmpR op_in_seq (pe_ix ix_tup (pv 1) pe_int (fun _ _ => rfl)) (pe_tup (pa_cons pe_str (pa_cons pe_str (pa_cons pe_str pa_nil)))) (by rfl))
  (pss_one (ps_ret (pe_op op_add pe_int (pe_callB (cr_sum rfl) (by rfl) T4.b_sum (by decide +kernel) (pa_cons (pe_lc (own := [("_law_inner", 3)]) (g := gName 3) (by rfl) nd  (pi_tup (pe_slice sl_tup (pv 1) (po_some pe_int) po_none)) (blkOk_by (own := [("_law_inner", 3)]) (N := N__law_count) (sc := defScope s__law_count) (by decide +kernel)) (fun _ _ _ _ _ => pg_name (i := 3) nd rfl (Or.inl rfl)) (fun _ _ _ _ _ => pts_nil) (fun _ _ _ _ _ => (pe_c G_count hr pass0 (pa_cons (pv 0) (pa_cons (pv 3) (pa_cons (pe_op op_add (pv 2) pe_int) pa_nil)))))) pa_nil)))))
  pss_nil)
  (pss_cons (ps_if (pt_cmpR op_eq (pe_ix ix_tup (pv 1) pe_int (fun _ _ => rfl)) pe_str (nomark _))
  (pss_one (ps_ret pe_int))
  pss_nil)
  (pss_cons (ps_set (i := 4) nd rfl (by first | exact Or.inl rfl | exact Or.inr rfl) (pe_ix ix_tup (pv 1) pe_int (fun _ _ => rfl)))
  (pss_cons (ps_if (PW.pt (pw_or (pt_val (pe_callB call_isi (by rfl) T.b_isinstance (by decide +kernel) (pa_cons (pv 4) (pa_cons (pe_bltn (v := .ty "str") (by rfl) T4.b_str (by decide +kernel) rfl) pa_nil)))) (pw_or1 (pt_not (pt_chain op_le op_lt pe_int (pv 4) (pe_callB call_len_seq (by rfl) T.b_len (by decide +kernel) (pa_cons (pv 0) pa_nil)))))))
  (pss_one (ps_ret pe_int))
  pss_nil)
  (pss_cons (ps_setLc (i := 5) (own := [("_law_value_here", 6)]) (g := gName 6) (by rfl) nd rfl rfl (sw_true rfl rfl rfl (by decide +kernel)) (pi_tup (pe_slice sl_tup (pv 1) (po_some pe_int) po_none)) (blkOk_by (own := [("_law_value_here", 6)]) (N := N__law_count) (sc := defScope s__law_count) (by decide +kernel)) (fun _ _ _ _ _ => pg_name (i := 6) nd rfl (Or.inl rfl)) (fun _ _ _ _ _ => pts_nil) (fun _ _ _ _ _ => (pe_callB (call_isiK (K := K) rfl) (by rfl) T.b_isinstance (by decide +kernel) (pa_cons (pv 6) (pa_cons (pe_bltn (v := .ty "str") (by rfl) T4.b_str (by decide +kernel) rfl) pa_nil)))))
  (pss_cons (ps_set (i := 7) nd rfl (by first | exact Or.inl rfl | exact Or.inr rfl) (pe_cmpR (op_eqM (α := List Bool) hr.units (by decide)) (pv 5) (pe_op op_rep (pe_lst (pa_cons (pe_cmpR op_eq (pe_ix ix_tup (pv 0) (pv 4) (fun _ _ => rfl)) pe_str (nomark _)) pa_nil)) (pe_callB call_len_seq (by rfl) T.b_len (by decide +kernel) (pa_cons (pv 5) pa_nil))) (nomark _)))
  (pss_one (ps_ret (pe_ifExp (PW.pt (pw_and (pt_val (pv 7)) (pw_and1 (PW.pt (pw_or (pt_cmpR op_ne (pe_ix ix_tup (pv 1) pe_int (fun _ _ => rfl)) pe_str (nomark _)) (pw_or1 (pt_cmpR op_eq (pe_ix ix_tup (pv 0) (pv 4) (fun _ _ => rfl)) pe_str (nomark _)))))))) pe_int pe_int)))))))))), ?_⟩
      refine ⟨_, rfl, _, _, rfl, rfl, _, rfl, ?_⟩
      refine ite2 (fun c => ?_) (fun c => ?_)
      · have c' := of_decide_eq_true c
        have n0 : n = 0 := by omega
        subst n0
        exact k _ _ (.refl _) ⟨(fun m h => nomatch h), fun _ => Int.le_refl _, by decide⟩
      obtain ⟨n, rfl⟩ : ∃ n', n = n' + 1 := by
        cases n with
        | zero => exact absurd (decide_eq_true (show (7 : Int) < 8 - ((0 : Nat) : Int) by decide)) c
        | succ n => exact ⟨n, rfl⟩
      cases fo with
      | @node z qs _ us1 _ es ds m hk fa fr =>
      cases fr
      obtain ⟨ps, hp, lps, kc⟩ := kinds_case hk
      obtain ⟨a, xs, rfl, ha, ixs⟩ := is_tup iv
      obtain ⟨x, ys, rfl⟩ : ∃ x ys, xs = x :: ys := by
        cases xs with
        | nil => cases ixs.1
        | cons x ys => exact ⟨x, ys, rfl⟩
      obtain ⟨ix, iys⟩ := ixs.uncons
      cases ix
      have les := fa.len
      have mq := many_eq (ks := ks) (n := n) hp (les.trans lps.symm)
      have hat0 : ∀ {H' : Hp}, Same H H' → SqT K H' a (V.str (S z) :: ys) := fun s => s.seqT ha
      refine ⟨_, rfl, a, _, 0, _, rfl, rfl, ha, at_of (z := 0) (j := 0) rfl rfl, (by show 3 ≤ sizeLine; decide), fun p np => ?_⟩
      have sp := Same.upd (o := .tup [V.str "not", .str "and", .str "or"]) np
      refine ⟨p, _, rfl, .inr (SqT.of upd_same), rfl, by decide, _, rfl, ?_⟩
      rcases kc with ⟨kc1, kc2, kc3⟩ | ⟨kc1, kc2, kc3, kc4⟩
      · rw [kc1]
        refine ite2 (fun _ => ?_) (fun z => absurd rfl z)
        rw [if_pos kc2] at mq
        have hs1 : HT.sIx (V.str (S z) :: ys).length 0 (some 1) = 1 := by
          have : HT.sIx (V.str (S z) :: ys).length 0 (some ((1 : Nat) : Int)) = _ := HT.sIx_nat ..
          rw [show (some (1 : Int)) = some ((1 : Nat) : Int) from rfl, this, List.length_cons]
          omega
        refine ⟨_, rfl, _, rfl, a, _, rfl, hat0 sp, (fun h => by rw [hs1] at h; exact absurd h.1 (by decide)), fun q nq => ?_⟩
        rw [show cutV (V.str (S z) :: ys) (some 1) none = ys from cut_from _ 1]
        have hq0 : (L2.upd (L2.upd H p (.tup [V.str "not", .str "and", .str "or"])) q (.tup ys)) q = some (.tup ys) := upd_same
        have sq := sp.upd' (o := .tup ys) nq
        have ly := iys.1
        refine ⟨q, rfl, ⟨_, SqT.of hq0⟩, fun D0 nD => ?_⟩
        refine lc_all (walk_tup (xs := ys)) (fun i H' => Same H H' ∧ H' q = some (.tup ys) ∧ ∃ cs : List Int, cs.length = i ∧ (∀ (j : Nat) (d : Dat) (c : Int), es[j]? = some d → cs[j]? = some c → CntOk ks n d c) ∧ H' D0 = some (.lst (cs.map V.int)))
          ⟨sq.upd' nD, Same.upd nD _ _ hq0, [], rfl, (fun j d c _ h => nomatch h), upd_same⟩ (fun _ _ _ h => SqT.of h.2.1) ?_ ?_
        · rintro i x H1' H2 hi ⟨s2, hq2, cs, lcs, ok, hD⟩ ⟨rfl, e⟩
          obtain ⟨d, hd⟩ : ∃ d, es[i]? = some d := ⟨_, List.getElem?_eq_getElem (by omega)⟩
          obtain ⟨ut, ft⟩ := fo_each fa kc3 d (List.mem_of_getElem? hd)
          refine ⟨_, rfl, _, rfl, _, rfl, _, _, rfl, rfl, n, rfl, kp, x, ks, d, ut, m, ?_, s2.seqT hkp, k4, (iys.2 i x d e hd).same s2, ft, fun H3 c s3 hc => ⟨_, s3 _ _ hD, ?_, ?_, ?_, cs ++ [c], ?_, ?_, ?_⟩⟩
          · show [V.ref kp, x, V.int (8 - ((n + 1 : Nat) : Int) + 1)] = [V.ref kp, x, V.int (8 - (n : Int))]
            rw [show (8 - ((n + 1 : Nat) : Int) + 1) = 8 - (n : Int) from by omega]
          · have : sizeLine = 16777216 := sizeLine_eq
            have := (kinds_val hk).2.1
            rw [List.length_map]
            omega
          · exact fun r u e9 => (upd_ne fun y => by
              rw [y, sq.free nD] at e9
              cases e9).trans ((s2.trans s3) r u e9)
          · exact (upd_ne fun y => by
              rw [← y, hq0] at nD
              cases nD).trans (s3 _ _ hq2)
          · rw [List.length_append, lcs]
            rfl
          · intro j d' c' hd' hc'
            by_cases e : j < cs.length
            · rw [List.getElem?_append_left e] at hc'
              exact ok j d' c' hd' hc'
            · rw [List.getElem?_append_right (by omega)] at hc'
              cases ej : j - cs.length with
              | zero =>
                rw [ej] at hc'
                cases hc'
                have : j = i := by omega
                subst this
                rw [hd] at hd'
                cases hd'
                exact hc
              | succ k =>
                rw [ej] at hc'
                cases hc'
          · rw [List.map_append]
            exact upd_same
        · rintro H2 ⟨s2, hq2, cs, lcs, ok, hD⟩
          obtain ⟨h1, h2, h3⟩ := cnt_sum (ks := ks) (n := n) (ds := es) (cs := cs) (by omega) ok
          refine ⟨D0, cs, rfl, SqL.of hD, _, _, rfl, rfl, k _ _ s2 ⟨fun mm e => ?_, fun e => ?_, by omega⟩⟩
          · rw [mq] at e
            cases ef : es.foldr (fun d acc => (manyD ks n d).bind fun a => acc.map fun b => a + b) (some 0) with
            | none =>
              rw [ef] at e
              cases e
            | some tt =>
              rw [ef] at e
              have := h1 tt ef
              have e : some (1 + tt) = some mm := e
              cases e
              omega
          · rw [mq] at e
            cases ef : es.foldr (fun d acc => (manyD ks n d).bind fun a => acc.map fun b => a + b) (some 0) with
            | none =>
              have := h2 ef
              omega
            | some tt =>
              rw [ef] at e
              cases e
      · rw [kc1]
        refine ite2 (fun z => absurd z (by decide)) (fun _ => ?_)
        rw [if_neg kc2] at mq
        obtain ⟨xs, exs, good, lxs⟩ := fo_vals fa kc3
        refine ⟨_, rfl, a, _, 0, _, rfl, rfl, hat0 sp, at_of (z := 0) (j := 0) rfl rfl, rfl, _, rfl, ?_⟩
        refine ite2 (fun c => ?_) (fun c => ?_)
        · have c := V.str.inj (of_decide_eq_true c)
          have e0 : es = [] := by
            rcases kc4 with ⟨_, q0⟩ | ⟨q0, _⟩
            · rw [q0] at les
              exact List.eq_nil_of_length_eq_zero les
            · exact absurd c q0
          refine k _ _ sp ⟨fun mm e => ?_, fun e => ?_, by decide⟩
          · rw [mq, e0] at e
            cases e
            rfl
          · rw [mq, e0] at e
            cases e
        · have q2 : 2 ≤ qs.length := by
            rcases kc4 with ⟨q0, _⟩ | ⟨_, q0⟩
            · exact absurd (decide_eq_true (congrArg V.str q0)) c
            · exact q0
          obtain ⟨x0, xs, rfl⟩ : ∃ x0 xs', xs = x0 :: xs' := by
            cases xs with
            | nil =>
              rw [List.length_nil] at lxs
              omega
            | cons x0 xs => exact ⟨x0, xs, rfl⟩
          subst exs
          obtain ⟨y0, ys, rfl⟩ : ∃ y0 ys', ys = y0 :: ys' := by
            cases ys with
            | nil => cases iys.1
            | cons y ys => exact ⟨y, ys, rfl⟩
          obtain ⟨iy0, iys2⟩ := iys.uncons
          obtain rfl := Vl.of iy0
          have lys : ys.length = xs.length := by
            rw [iys2.1, List.length_map]
          refine ⟨_, rfl, a, _, 1, _, rfl, rfl, hat0 sp, at_of (z := 1) (j := 1) rfl rfl, ?_⟩
          have fin : ∀ H' b, Same H H' → valsB ks (S z) ((x0 :: xs).map Vl.dat) = b → Q (.int (if b = true then 1 else 99)) H' := fun H' b s e => by
            rw [e] at mq
            refine k _ _ s ⟨fun mm g => ?_, fun g => ?_, by cases b <;> decide⟩
            · rw [mq] at g
              cases b with
              | false => cases g
              | true =>
                cases g
                rfl
            · rw [mq] at g
              cases b with
              | false => exact Int.le_refl _
              | true => cases g
          have out : valsB ks (S z) ((x0 :: xs).map Vl.dat) = false → Q (.int 99) (L2.upd H p (.tup [V.str "not", .str "and", .str "or"])) := fun e => fin _ false sp e
          refine ⟨_, rfl, _, .ty "str", _, .type "str", _, rfl, .ty _, (iy0.same sp).ty, kit_str x0.dat, ?_⟩
          cases x0 with
          | wrd l => exact ⟨_, rfl, ite2 (fun _ => ite2 (fun _ => out rfl) (fun z => absurd rfl z)) (fun z => absurd rfl z)⟩
          | num i =>
            refine ⟨_, rfl, ite2 (fun z => Bool.noConfusion (show false = true from z)) (fun _ => ?_)⟩
            have lk : ((ks.map kdV).length : Nat) = ks.length := List.length_map ..
            refine ⟨_, rfl, _, _, rfl, rfl, _, rfl, ?_⟩
            have vb : valsB ks (S z) ((Vl.num i :: xs).map Vl.dat) = ((decide (0 ≤ i) && decide (i < ks.length)) && ((!decide (S z = "begins") || ks.getD i.toNat false) && (xs.map Vl.dat).all (valB (ks.getD i.toNat false)))) := rfl
            refine ite2 (fun c1 => ?_) (fun c1 => ?_)
            rotate_left
            · refine ⟨_, rfl, ite2 (fun _ => out ?_) (fun z => absurd rfl z)⟩
              rw [vb, show decide (0 ≤ i) = false from by simpa using c1]
              rfl
            have c1 := of_decide_eq_true c1
            refine ⟨_, rfl, kp, _, rfl, .inr (sp.seqT hkp), _, _, rfl, rfl, _, rfl, ?_⟩
            rw [lk]
            refine ite2 (fun c2 => out ?_) (fun c2 => ?_)
            · have c2 : (!decide (i < (ks.length : Int))) = true := c2
              rw [vb, show decide (i < (ks.length : Int)) = false from by
                revert c2
                cases decide (i < (ks.length : Int)) <;> decide, Bool.and_false, Bool.false_and]
            have c2 : i < (ks.length : Int) := Decidable.byContradiction fun z => c2 (by
              show (!decide (i < (ks.length : Int))) = true
              rw [decide_eq_false z]
              rfl)
            have hs2 : HT.sIx (V.str (S z) :: (Vl.num i).v :: ys).length 0 (some 2) = 2 := by
              have : HT.sIx (V.str (S z) :: (Vl.num i).v :: ys).length 0 (some ((2 : Nat) : Int)) = _ := HT.sIx_nat ..
              rw [show (some (2 : Int)) = some ((2 : Nat) : Int) from rfl, this, List.length_cons, List.length_cons]
              omega
            refine ⟨_, rfl, _, rfl, a, _, rfl, hat0 sp, (fun h => by rw [hs2] at h; exact absurd h.1 (by decide)), fun q nq => ?_⟩
            rw [show cutV (V.str (S z) :: (Vl.num i).v :: ys) (some 2) none = ys from cut_from _ 2]
            have sq := sp.upd' (o := .tup ys) nq
            refine ⟨q, rfl, ⟨_, SqT.of upd_same⟩, fun D0 nD => ?_⟩
            refine lc_all (walk_tup (xs := ys)) (fun j H' => Same H H' ∧ H' q = some (.tup ys) ∧ H' D0 = some (.lst (((xs.map Vl.isW).take j).map V.bl))) ⟨sq.upd' nD, Same.upd nD _ _ upd_same, upd_same⟩ (fun _ _ _ h => SqT.of h.2.1) ?_ ?_
            · rintro j x H1' H2 hj ⟨s2, hq2, hD⟩ ⟨rfl, e⟩
              have hj' : j < xs.length := by omega
              obtain ⟨y, hy⟩ : ∃ y, xs[j]? = some y := ⟨_, List.getElem?_eq_getElem hj'⟩
              have ix := (iys2.2 j x y.dat e (by rw [List.getElem?_map, hy]; rfl)).same s2
              refine ⟨_, rfl, _, .ty "str", _, .type "str", _, rfl, .ty _, ix.ty, kit_str y.dat, _, hD, ?_, ?_, ?_, ?_⟩
              · have : sizeLine = 16777216 := sizeLine_eq
                have l5 := List.length_take_le' j (xs.map Vl.isW)
                have := (kinds_val hk).2.1
                rw [List.length_cons] at lxs
                rw [List.length_map]
                rw [List.length_map] at l5
                omega
              · exact fun r u e9 => (upd_ne fun y => by
                  rw [y, sq.free nD] at e9
                  cases e9).trans (s2 r u e9)
              · exact (upd_ne fun y => by
                  rw [← y, upd_same] at nD
                  cases nD).trans hq2
              · rw [List.take_succ, List.getElem?_map, hy, List.map_append]
                cases y <;> exact upd_same
            · rintro H2 ⟨s2, hq2, hD⟩
              rw [List.take_of_length_le (by rw [List.length_map, lys]; exact Nat.le_refl _)] at hD
              obtain ⟨w, hw⟩ : ∃ w, ks[i.toNat]? = some w := ⟨_, List.getElem?_eq_getElem (by omega)⟩
              have hwv : (ks.map kdV)[i.toNat]? = some (kdV w) := by rw [List.getElem?_map, hw]; rfl
              refine ⟨_, rfl, _, rfl, _, rfl, kp, _, i, _, rfl, rfl, s2.seqT hkp, at_of (j := i.toNat) (by omega) hwv, ?_⟩
              refine ⟨(by cases w <;> rfl), (by show 1 ≤ sizeLine; decide), fun q2 nq2 => ?_⟩
              rw [kd_word]
              have s3 := s2.upd' (o := .lst [V.bl w]) nq2
              have hD3 := Same.upd (o := .lst [V.bl w]) nq2 _ _ hD
              have lw : ((xs.map Vl.isW).map V.bl).length = xs.length := by rw [List.length_map, List.length_map]
              have few : xs.length ≤ 3 := by
                have := (kinds_val hk).2.1
                rw [List.length_cons] at lxs
                omega
              refine ⟨_, rfl, D0, _, rfl, .inl (SqL.of hD3), q2, _, _, rfl, rfl, upd_same, ?_, ?_, ?_, fun q3 nq3 => ?_⟩
              · rw [lw]
                omega
              · rw [lw]
                omega
              · rw [lw, sizeLine_eq]
                show 1 * ((xs.length : Nat) : Int).toNat ≤ 16777216
                omega
              rw [lw, show (List.replicate ((xs.length : Nat) : Int).toNat [V.bl w]).flatten = (List.replicate xs.length w).map V.bl from by
                rw [Int.toNat_natCast]
                induction xs.length with
                | zero => rfl
                | succ n ih => rw [List.replicate_succ, List.replicate_succ, List.flatten_cons, ih, List.map_cons]; rfl]
              have s4 := s3.upd' (o := .lst ((List.replicate xs.length w).map V.bl)) nq3
              refine ⟨_, _, isD_bools (SqL.of (Same.upd nq3 _ _ hD3)), isD_bools (SqL.of upd_same), ?_⟩
              have gd : ks.getD i.toNat false = w := by
                rw [List.getD_eq_getElem?_getD, hw]
                rfl
              rw [gd, decide_eq_true c1, decide_eq_true c2, vals_words fun y hy => good y (List.mem_cons_of_mem _ hy)] at vb
              refine ⟨_, rfl, _, rfl, ?_⟩
              have s5 := s3.upd' (o := .lst ((List.replicate xs.length w).map V.bl)) nq3
              have zb : decide (V.str (S z) = V.str "begins") = decide (S z = "begins") := decide_eq_decide.mpr ⟨fun h => V.str.inj h, fun h => by rw [h]⟩
              refine ite2 (fun c3 => ?_) (fun c3 => ?_)
              · have c3 : decide (xs.map Vl.isW = List.replicate xs.length w) = true := c3
                rw [c3, Bool.and_true, Bool.true_and] at vb
                refine ⟨_, rfl, a, _, 0, _, rfl, rfl, hat0 s5, at_of (z := 0) (j := 0) rfl rfl, rfl, _, rfl, ?_⟩
                rw [zb]
                refine ite2 (fun c4 => ?_) (fun c4 => ?_)
                · refine ite2 (fun _ => fin _ true s5 ?_) (fun z => absurd rfl z)
                  rw [vb, c4]
                  rfl
                · refine ⟨_, rfl, _, rfl, kp, _, i, _, rfl, rfl, s5.seqT hkp, at_of (j := i.toNat) (by omega) hwv, (by cases w <;> rfl), _, rfl, ?_⟩
                  rw [kd_word]
                  have c4 : (!decide (S z = "begins")) = false := by simpa using c4
                  rw [c4, Bool.false_or] at vb
                  refine ite2 (fun c5 => ?_) (fun c5 => ?_)
                  · exact fin _ true s5 (by rw [vb, c5]; rfl)
                  · exact fin _ false s5 (by rw [vb]; simpa using c5)
              · have c3 : decide (xs.map Vl.isW = List.replicate xs.length w) = false := by simpa using c3
                rw [c3, Bool.and_false, Bool.and_false] at vb
                exact ite2 (fun z => absurd z (by decide)) (fun _ => fin _ false s5 vb)
  intro n
  induction n with
  | zero =>
    intro h
    exact gen 0 h (D0.void.imp fun vs H Q E ⟨m, z, _⟩ => by cases z)
  | succ n ih =>
    intro h
    have := gen (n + 1) h (by
      have := ih (by omega)
      rw [show n + 1 = 1 + n by omega]
      exact this.imp fun vs H Q E ⟨m, z, hh⟩ => by
        obtain rfl : n = m := by omega
        exact hh)
    rw [show 1 + (n + 1) = (n + 1) + 1 by omega]
    exact this
end
end K3

set_option Elab.async false
set_option linter.all false
set_option maxRecDepth 100000
set_option maxHeartbeats 4000000
/-! KBt: words checked by the program -/
namespace RT
open PySem PySem.Spec PyProof.Rows L2
theorem walk_revT {K : PySem.W.Frag} {a : Addr} {xs : List V} : Walk (ItvT K a xs.length) xs.length (fun H => SqT K H a xs) (fun i H x H' => H' = H ∧ xs[xs.length - 1 - i]? = some x) :=
  ⟨fun i _ hi q => ⟨hi, xs, xs[xs.length - 1 - i]'(by omega), q, by simp [show xs.length - 1 - i < xs.length by omega]⟩, fun _ _ => Nat.le_refl _, fun _ _ _ _ _ q y => ⟨y.1, y.2 xs q⟩⟩
end RT
namespace K3
open PySem PySem.Spec PyProof.Rows L2 SX
section
variable {P : Program} {w : World} {K : PySem.W.Frag} {mg : Str → Option Value} {base : Heap}
abbrev s_BadText : Stmt := inClass (top 14) 0
theorem sc_BadText : FnScope ["self", "place"] ["self", "place"] (defScope s_BadText) := ⟨rfl, rfl, rfl, by decide +kernel, rfl, by decide +kernel, by decide +kernel⟩
theorem ok_initT {CE C : Addr} (B : ExcB K mg CE) (D : ExcP K mg "BadText" s_BadText C) : ∃ (fI : Addr) (fd : FuncData), FnOk P w K mg base CX0 1 fI fd ["self", "place"] (spInit K) ∧ Binds K fd ["self", "place"] [] ∧ PySem.W.findIn K (.ref C) "__init__" = some (some (.ref fI)) ∧ PySem.W.typeIn K (.ref fI) = some (.type "function") := by
  obtain ⟨fI, fd, F, hb, h1, h2⟩ := D.ex
  refine ⟨fI, fd, F.ok sc_BadText (fun vs H Q E h => ?_) fun cdv A outer s H vs Q E hr h => ?_, hb, h1, h2⟩
  · obtain ⟨a, C, k, rfl, _⟩ := h
    rfl
  · obtain ⟨a, C, k, rfl, T, hno, ha, hk, q⟩ := h
    have nd := sc_BadText.nd
    have a1 := str_add (show Str.empty.length ≤ 0 from Nat.le_refl 0) (show (Str.ofString "the word at place ").length ≤ 21 by decide)
    have a2 := str_add a1 (int_len hk)
    have a3 := str_add a2 (show (Str.ofString " can't stand there").length ≤ 20 by decide)
    refine ⟨_, pss_cons (ps_expr (pe_ceinit B rfl (pa_cons (pv 0) (pa_cons (pe_joined (.cons pe_str (.cons (pe_fmt (pv 1)) (.cons pe_str .nil)))) pa_nil)))) (pss_one (ps_ost (pv 0) (pv 1))), ?_⟩
    refine ⟨_, rfl, _, rfl, str_fits a1 (by decide), _, rfl, .inr ⟨_, rfl, int_log hk, _, rfl, str_fits a2 (by decide), _, rfl, str_fits a3 (by decide), a, C, _, rfl, (by show 1 ≤ 1000; decide), T, ha, ?_⟩⟩
    exact ⟨_, rfl, _, rfl, a, C, rfl, T, hno, .inl ⟨ha, fun dx n ne => q dx n ne⟩⟩
abbrev s_check_words : Stmt := top 37
abbrev N_check_words : List Str := ["words", "wanted", "place", "word", "part"]
abbrev P_check_words : List Str := ["words"]
theorem sc_check_words : FnScope N_check_words P_check_words (defScope s_check_words) := ⟨rfl, rfl, rfl, by decide +kernel, rfl, by decide +kernel, by decide +kernel⟩
def spCkW (K : PySem.W.Frag) (CT : Addr) : Sp := fun vs H Q E => ∃ (wp : Addr) (ws : List (List Nat)), vs = [.ref wp] ∧ SqL K H wp (wordsV ws) ∧ ws.length ≤ 10000 ∧ (∀ l ∈ ws, l.length ≤ 10000 ∧ ∀ c ∈ l, c < 128) ∧
  (rdW [true] ws 0 = none → ∀ H', Same H H' → Q .non H') ∧ (∀ p, rdW [true] ws 0 = some p → ∀ d H', Same H H' → H d = none → H' d = some (.xd [("place", .int (p : Nat))]) → E (.ref CT) (some d) H')
theorem ok_check_words {pd : Addr} {es : Array DictEntry} {n0 : Nat} {CE CT : Addr} (PA : PartsT K w mg pd es n0) (T : Txt mg) (XB : ExcB K mg CE) (XT : ExcP K mg "BadText" s_BadText CT) (D0 : Df K mg "check_words" s_check_words P_check_words)
    (G_is_part : Fn P w K mg base CX0 2 "is_part" P_is_part spIsP) : Fn P w K mg base (L2.CX P w) 3 "check_words" P_check_words (spCkW K CT) := by
  refine D0.okX sc_check_words (fun vs H Q E h => ?_) (fun f cdv A outer s H vs Q E hr h => ?_)
  · obtain ⟨wp, ws, rfl, _⟩ := h
    rfl
  · obtain ⟨wp, ws, rfl, hw, lw, ll, k, kE⟩ := h
    have nd := sc_check_words.nd
    refine ⟨_, (pss_cons (ps_set (i := 1) nd rfl (by first | exact Or.inl rfl | exact Or.inr rfl) (pe_lst (pa_cons pe_bl pa_nil)))
  (pss_cons (ps_for (passes_of rfl) rfl (pi_enum (by rfl) T.b_enumerate (pa_cons (pv 0) pa_nil)) (pg_tupK (K := K) (n := 2) rfl (by rfl) (pgs_cons (pg_name (i := 2) nd rfl (by first | exact Or.inl rfl | exact Or.inr rfl)) (pgs_cons (pg_name (i := 3) nd rfl (by first | exact Or.inl rfl | exact Or.inr rfl)) pgs_nil)))
  (pss_cons (ps_if (pt_not (pt_truth (pv 1) (fun _ => rfl)))
  (pss_one (ps_raise rfl (takes_of rfl rfl rfl rfl) (pmk_pl XT (ok_initT XB XT) hr (pv 2))))
  pss_nil)
  (pss_one (ps_if (pt_not (pt_val (pe_bm0 PySem.F.plainAttrs_list PySem.F.slot_list_pop PySem.F.type_list_pop mt_pop (pv 1))))
  (pss_one (ps_if (pt_not (pt_val (pe_c G_is_part (hr.mono (by decide)) pass0 (pa_cons (pv 3) pa_nil))))
  (pss_one (ps_raise rfl (takes_of rfl rfl rfl rfl) (pmk_pl XT (ok_initT XB XT) hr (pv 2))))
  pss_nil))
  (pss_one (ps_if (pt_cmpR (op_in_kd PA.D) (pv 3) (pe_glob (v := .ref pd) (by rfl) PA.g rfl) (by rfl))
  (pss_one (ps_expr (pe_bm PySem.F.plainAttrs_list PySem.F.slot_list_extend PySem.F.type_list_extend mt_extend (pv 1) (pa_cons (pe_lc (own := [("part", 4)]) (g := gName 4) (by rfl) nd  (RT.pi_revA (by rfl) T.b_reversed (pe_ix ix_kdict (pe_glob (v := .ref pd) (by rfl) PA.g rfl) (pv 3) (fun _ _ => rfl))) (blkOk_by (own := [("part", 4)]) (N := N_check_words) (sc := defScope s_check_words) (by decide +kernel)) (fun _ _ _ _ _ => pg_name (i := 4) nd rfl (Or.inl rfl)) (fun _ _ _ _ _ => pts_nil) (fun _ _ _ _ _ => (pe_cmpR op_eq (pv 4) pe_str (nomark _)))) pa_nil))))
  (pss_one (ps_raise rfl (takes_of rfl rfl rfl rfl) (pmk_pl XT (ok_initT XB XT) hr (pv 2))))))))))
  (pss_one (ps_if (pt_truth (pv 1) (fun _ => rfl))
  (pss_one (ps_raise rfl (takes_of rfl rfl rfl rfl) (pmk_pl XT (ok_initT XB XT) hr (pe_callB call_len_seq (by rfl) T.b_len (by decide +kernel) (pa_cons (pv 0) pa_nil)))))
  pss_nil)))), ?_⟩
    refine ⟨(by show 1 ≤ sizeLine; decide), fun wl nwl => ?_⟩
    have s1 := Same.upd (o := .lst [V.bl true]) nwl
    have lenw : (wordsV ws).length = ws.length := List.length_map ..
    refine ⟨_, rfl, wp, _, rfl, s1.seq hw, ?_⟩
    refine for_it (walk_enum (xs := wordsV ws)) (fun i σ H' => ∃ (wants : List Bool) (x2 x3 x4 : Option V), σ = [some (.ref wp), some (.ref wl), x2, x3, x4] ∧ Same H H' ∧ H' wl = some (.lst (wants.reverse.map V.bl)) ∧ wants.length ≤ 3 * i + 1 ∧ rdW [true] ws 0 = rdW wants (ws.drop i) i)
      ⟨[true], none, none, none, rfl, s1, upd_same, by decide, rfl⟩ (fun i σ H' _ ⟨_, _, _, _, _, s5, _⟩ => s5.seq hw) ?_ ?_
    · rintro i x σ H1 H2 hi ⟨wants, x2, x3, x4, rfl, s2, hwl, lwt, erd⟩ ⟨T0, x0, y0, rfl, nT, rfl, e1, e2⟩
      obtain rfl := Option.some.inj e1
      have hi' : i < ws.length := by omega
      obtain ⟨l, hl⟩ : ∃ l, ws[i]? = some l := ⟨_, List.getElem?_eq_getElem hi'⟩
      have hd : ws.drop i = l :: ws.drop (i + 1) := by
        rw [List.drop_eq_getElem_cons hi', ← (List.getElem?_eq_some_iff.mp hl).2]
      have hy : y0 = V.str (S l) := by
        have e2 : (wordsV ws)[i]? = some y0 := e2
        rw [List.getElem?_map, hl] at e2
        exact (Option.some.inj e2).symm
      subst hy
      obtain ⟨l10, asc⟩ := ll l (List.mem_of_getElem? hl)
      rw [hd] at erd
      have sT := s2.upd' (o := .tup [.int (i : Nat), .str (S l)]) nT
      have hwlT := Same.upd (o := .tup [.int (i : Nat), .str (S l)]) nT _ _ hwl
      have Hwl : H wl = none := nwl
      have hik : (i : Int).natAbs < 2 ^ 64 := by omega
      have bad : ∀ H3, Same H H3 → rdW [true] ws 0 = some i → ([V.int (i : Int)] : List V).length ≤ 1000 ∧ ∀ a, H3 a = none → spInit K (.ref a :: ([V.int (i : Int)] ++ [])) (L2.upd H3 a (exo a CT none)) (fun v H2 => v = .non ∧ ∃ (d : Addr) (fs : List (Str × V)), H2 a = some (exo a CT (some d)) ∧ H2 d = some (exd d fs) ∧ H3 d = none ∧ E (.ref CT) (some d) (L2.upd (L2.del H2 a) d (.xd fs))) (fun _ _ _ => False) :=
        fun H3 s3 er => mk_pl XT.o XT.nf hik fun d H2 s2 n2 h2 => kE i er d H2 (s3.trans s2) (s3.free n2) h2
      refine ⟨T0, _, rfl, SqT.of upd_same, rfl, _, _, rfl, _, _, rfl, rfl, ?_⟩
      cases wants with
      | nil =>
        refine ⟨_, rfl, _, .inl ⟨_, SqL.of hwlT, rfl⟩, ite2 (fun _ => ⟨_, rfl, bad _ sT erd⟩) (fun z => absurd rfl z)⟩
      | cons w0 wants =>
      have ew : (w0 :: wants).reverse.map V.bl = wants.reverse.map V.bl ++ [.bl w0] := by
        rw [List.reverse_cons, List.map_append]
        rfl
      rw [ew] at hwlT
      refine ⟨_, rfl, true, .inl ⟨_, SqL.of hwlT, ?_⟩, ?_⟩
      · cases wants.reverse.map V.bl <;> rfl
      refine ite2 (fun z => absurd z (by decide)) (fun _ => ?_)
      have et : ∀ xs : List V, (xs ++ [V.bl w0])[(xs ++ [V.bl w0]).length - 1]? = some (.bl w0) := fun xs => by
        rw [List.length_append, List.getElem?_append_right (by simp)]
        simp
      refine ⟨_, rfl, .inl ⟨rfl, _, SqL.of hwlT⟩, wl, _, .bl w0, rfl, rfl, hwlT, et _, ?_⟩
      rw [List.dropLast_concat]
      have nTw : T0 ≠ wl := fun e => by
        rw [e, hwl] at nT
        cases nT
      have s3 := sT.put (o := .lst (wants.reverse.map V.bl)) Hwl
      have hwl3 : (L2.upd (L2.upd H1 T0 (.tup [.int (i : Nat), .str (S l)])) wl (.lst (wants.reverse.map V.bl))) wl = some (.lst (wants.reverse.map V.bl)) := upd_same
      refine ⟨_, rfl, ?_⟩
      cases w0 with
      | false =>
        have erd : rdW [true] ws 0 = (if (valW l).isSome then rdW wants (ws.drop (i + 1)) (i + 1) else some i) := erd
        refine ite2 (fun _ => ?_) (fun z => absurd rfl z)
        refine ⟨_, rfl, l, rfl, l10, asc, fun H4 s4 => ?_⟩
        cases hv : valW l with
        | none =>
          rw [hv] at erd
          exact ⟨_, rfl, ite2 (fun _ => ⟨_, rfl, bad _ (s3.trans s4) erd⟩) (fun z => absurd rfl z)⟩
        | some x =>
          rw [hv] at erd
          refine ⟨_, rfl, ite2 (fun z => Bool.noConfusion (show false = true from z)) (fun _ => ?_)⟩
          refine ⟨wants, _, _, _, rfl, s3.trans s4, s4 _ _ hwl3, ?_, erd⟩
          rw [List.length_cons] at lwt
          omega
      | true =>
        have erd : rdW [true] ws 0 = (match kindsOf l with | none => some i | some ks => rdW (ks ++ wants) (ws.drop (i + 1)) (i + 1)) := erd
        refine ite2 (fun z => absurd z (by decide)) (fun _ => ?_)
        cases hp : partsOf (S l) with
        | none =>
          have hk : kindsOf l = none := by
            unfold kindsOf
            rw [hp]
            rfl
          rw [hk] at erd
          exact ⟨_, rfl, S l, none, rfl, rfl, PA.no _ hp, _, rfl, ite2 (fun z => absurd z (by decide)) (fun _ => ⟨_, rfl, bad _ s3 erd⟩)⟩
        | some ps =>
          have hk : kindsOf l = some (ps.map fun p => decide (p = condS)) := by
            unfold kindsOf
            rw [hp]
            rfl
          rw [hk] at erd
          have q3 := (kinds_val hk).2.1
          rw [List.length_map] at q3
          obtain ⟨t0, yes, _⟩ := PA.yes _ _ hp
          obtain ⟨t', kd, q'⟩ := PA.kd hp
          refine ⟨_, rfl, S l, some (.ref t0), rfl, rfl, yes, _, rfl, ite2 (fun _ => ?_) (fun z => absurd rfl z)⟩
          refine ⟨_, rfl, .inl ⟨rfl, _, SqL.of hwl3⟩, _, rfl, pd, S l, .ref t', rfl, rfl, kd, t', _, rfl, .inr ⟨q' _, fun D0 nD => ?_⟩⟩
          have wlD : D0 ≠ wl := fun e => by
            rw [e, hwl3] at nD
            cases nD
          refine lc_all (RT.walk_revT (xs := ps.map V.str)) (fun j H' => Same H H' ∧ H' wl = some (.lst (wants.reverse.map V.bl)) ∧ H' D0 = some (.lst (((ps.reverse.map fun p => decide (p = condS)).take j).map V.bl)))
            ⟨s3.upd' nD, (upd_ne (Ne.symm wlD)).trans hwl3, upd_same⟩ (fun _ _ _ _ => q' _) ?_ ?_
          · rintro j x H5' H5 hj ⟨s5, hwl5, hD⟩ ⟨rfl, e⟩
            rw [List.length_map] at hj e
            obtain ⟨p0, hp0⟩ : ∃ p0, ps.reverse[j]? = some p0 := ⟨_, List.getElem?_eq_getElem (by rw [List.length_reverse]; exact hj)⟩
            have ex : x = V.str p0 := by
              rw [List.getElem?_reverse hj] at hp0
              rw [List.getElem?_map, hp0] at e
              exact (Option.some.inj e).symm
            subst ex
            refine ⟨_, rfl, rfl, _, hD, ?_, ?_, ?_, ?_⟩
            · have : sizeLine = 16777216 := sizeLine_eq
              have l5 := List.length_take_le' j (ps.reverse.map fun p => decide (p = condS))
              rw [List.length_map, List.length_reverse] at l5
              rw [List.length_map]
              omega
            · exact fun r u e9 => (upd_ne fun y => by
                rw [y, s3.free nD] at e9
                cases e9).trans (s5 r u e9)
            · exact (upd_ne (Ne.symm wlD)).trans hwl5
            · rw [List.take_succ, List.getElem?_map, hp0, List.map_append, show decide (V.str p0 = V.str "condition") = decide (p0 = condS) from decide_eq_decide.mpr ⟨fun h => V.str.inj h, fun h => by rw [h]; rfl⟩]
              exact upd_same
          · rintro H5 ⟨s5, hwl5, hD⟩
            rw [List.take_of_length_le (by rw [List.length_map, List.length_map, List.length_reverse]; exact Nat.le_refl _)] at hD
            refine ⟨wl, D0, _, _, rfl, rfl, hwl5, hD, ?_, ?_⟩
            · have : sizeLine = 16777216 := sizeLine_eq
              rw [List.length_map, List.length_map, List.length_map, List.length_reverse, List.length_reverse]
              rw [List.length_cons] at lwt
              omega
            · refine ⟨(ps.map fun p => decide (p = condS)) ++ wants, _, _, _, rfl, s5.put Hwl, ?_, ?_, erd⟩
              · rw [List.reverse_append, List.map_append, List.map_reverse (f := fun p => decide (p = condS))]
                exact upd_same
              · rw [List.length_cons] at lwt
                rw [List.length_append, List.length_map]
                omega
    · rintro σ H2 ⟨wants, x2, x3, x4, rfl, s2, hwl, lwt, erd⟩
      rw [lenw, List.drop_length] at erd
      cases wants with
      | nil =>
        refine ⟨_, rfl, _, .inl ⟨_, SqL.of hwl, rfl⟩, ite2 (fun z => absurd z (by decide)) (fun _ => k erd _ s2)⟩
      | cons w0 wants =>
        have erd : rdW [true] ws 0 = some ws.length := by
          rw [erd]
          cases w0 <;> rfl
        refine ⟨_, rfl, true, .inl ⟨_, SqL.of hwl, ?_⟩, ite2 (fun _ => ?_) (fun z => absurd rfl z)⟩
        · rw [List.reverse_cons, List.map_append]
          cases wants.reverse.map V.bl <;> rfl
        · refine ⟨_, rfl, wp, _, rfl, .inl (s2.seq hw), ?_⟩
          rw [lenw]
          exact mk_pl XT.o XT.nf (by omega) fun d H3 s3 n3 h3 => kE ws.length erd d H3 (s2.trans s3) (s2.free n3) h3
theorem Fo.small {ks : List Bool} {ws : List (List Nat)} {ds : List Dat} {n : Nat} (f : Fo ks ws ds n) : ds.length ≤ ws.length := by
  induction f with
  | nil => exact Nat.le_refl _
  | val h _ ih =>
    rw [List.length_cons, List.length_cons]
    omega
  | node h _ _ _ ih =>
    rw [List.length_cons, List.length_cons, List.length_append]
    omega
theorem Fo.drop {ws : List (List Nat)} {n : Nat} : ∀ (i : Nat) {ks : List Bool} {ds : List Dat}, Fo ks ws ds n → i ≤ ws.length → ∃ ks' ds', Fo ks' (ws.drop i) ds' n
  | 0, ks, ds, f, _ => ⟨ks, ds, f⟩
  | i + 1, ks, ds, f, h => by
    obtain ⟨ks', ds', g⟩ := f.drop i (by omega)
    rw [List.drop_eq_getElem_cons (by omega)] at g
    obtain ⟨ks2, ds2, g2, _⟩ := g.tail
    exact ⟨ks2, ds2, g2⟩
abbrev s_built : Stmt := top 39
abbrev N_built : List Str := ["words", "parts", "word", "condition", "_"]
abbrev P_built : List Str := ["words"]
theorem sc_built : FnScope N_built P_built (defScope s_built) := ⟨rfl, rfl, rfl, by decide +kernel, rfl, by decide +kernel, by decide +kernel⟩
def spBuilt (K : PySem.W.Frag) : Sp := fun vs H Q _ => ∃ (wp : Addr) (ws : List (List Nat)) (d : Dat) (n : Nat), vs = [.ref wp] ∧ SqL K H wp (wordsV ws) ∧ Fo [true] ws [d] n ∧ ws.length ≤ 10000 ∧ (∀ l ∈ ws, l.length ≤ 10000) ∧
  ∀ H' v, Same H H' → Is K H' v d → Q v H'
theorem ok_built {pd : Addr} {es : Array DictEntry} {n0 : Nat} (PA : PartsT K w mg pd es n0) (T : Txt mg) (D0 : Df K mg "built" s_built P_built) : Fn P w K mg base CX0 1 "built" P_built (spBuilt K) := by
  refine D0.ok sc_built (fun vs H Q E h => ?_) (fun f cdv A outer s H vs Q E hr h => ?_)
  · obtain ⟨wp, ws, d, n, rfl, _⟩ := h
    rfl
  · obtain ⟨wp, ws, d, n, rfl, hw, fo, lw, ll, k⟩ := h
    have nd := sc_built.nd
    refine ⟨_, (pss_cons (ps_set (i := 1) nd rfl (by first | exact Or.inl rfl | exact Or.inr rfl) (pe_lst pa_nil))
  (pss_cons (ps_for PassesOwn.never rfl (pi_reversed (by rfl) T.b_reversed (pa_cons (pv 0) pa_nil)) (pg_name (i := 2) nd rfl (by first | exact Or.inl rfl | exact Or.inr rfl))
  (pss_one (ps_if (pt_cmpR (op_in_kd PA.D) (pv 2) (pe_glob (v := .ref pd) (by rfl) PA.g rfl) (by rfl))
  (pss_cons (ps_set (i := 3) nd rfl (by first | exact Or.inl rfl | exact Or.inr rfl) (pe_lst (pa_cons (pv 2) pa_nil)))
  (pss_cons (ps_for PassesOwn.never rfl (pi_tup (pe_ix ix_kdict (pe_glob (v := .ref pd) (by rfl) PA.g rfl) (pv 2) (fun _ _ => rfl))) (pg_name (i := 4) nd rfl (by first | exact Or.inl rfl | exact Or.inr rfl))
  (pss_one (ps_expr (pe_bm PySem.F.plainAttrs_list PySem.F.slot_list_append PySem.F.type_list_append mt_append (pv 3) (pa_cons (pe_bm0 PySem.F.plainAttrs_list PySem.F.slot_list_pop PySem.F.type_list_pop mt_pop (pv 1)) pa_nil)))))
  (pss_one (ps_expr (pe_bm PySem.F.plainAttrs_list PySem.F.slot_list_append PySem.F.type_list_append mt_append (pv 1) (pa_cons (pe_callTy call_tuple_of (by rfl) T.b_tuple (by decide +kernel) (pa_cons (pv 3) pa_nil)) pa_nil))))))
  (pss_one (ps_if (pt_val (L2.pe_m1 PySem.F.slot_str_startswith PySem.F.type_str_startswith mt_startswith (pv 2) pe_str))
  (pss_one (ps_expr (pe_bm PySem.F.plainAttrs_list PySem.F.slot_list_append PySem.F.type_list_append mt_append (pv 1) (pa_cons (pe_slice sl_str (pv 2) (po_some pe_int) po_none) pa_nil))))
  (pss_one (ps_expr (pe_bm PySem.F.plainAttrs_list PySem.F.slot_list_append PySem.F.type_list_append mt_append (pv 1) (pa_cons (pe_callTy call_int_str (by rfl) T.b_int (by decide +kernel) (pa_cons (pv 2) pa_nil)) pa_nil)))))))))
  (pss_one (ps_ret (pe_ix ix_list (pv 1) pe_int (fun _ _ => rfl)))))), ?_⟩
    refine ⟨(by show 0 ≤ sizeLine; decide), fun pl npl => ?_⟩
    have s1 := Same.upd (o := .lst []) npl
    have lenw : (wordsV ws).length = ws.length := List.length_map ..
    refine ⟨_, rfl, wp, _, rfl, s1.seq hw, ?_⟩
    refine for_it (walk_rev (xs := wordsV ws)) (fun i σ H' => ∃ (ys : List V) (x2 x3 x4 : Option V), σ = [some (.ref wp), some (.ref pl), x2, x3, x4] ∧ Same H H' ∧ H' pl = some (.lst ys.reverse) ∧ Iss K H' ys ((ws.drop (ws.length - i)).foldr stW []))
      ⟨[], none, none, none, rfl, s1, upd_same, by rw [Nat.sub_zero, List.drop_length]; exact .nil⟩ (fun i σ H' _ ⟨_, _, _, _, _, s5, _⟩ => s5.seq hw) ?_ ?_
    · rintro i x σ H1' H1 hi ⟨ys, x2, x3, x4, rfl, s2, hpl, iss⟩ ⟨rfl, e⟩
      rw [lenw] at hi e
      have hlt : ws.length - 1 - i < ws.length := by omega
      obtain ⟨l, hl⟩ : ∃ l, ws[ws.length - 1 - i]? = some l := ⟨_, List.getElem?_eq_getElem hlt⟩
      have hx : x = V.str (S l) := by
        have e : (wordsV ws)[ws.length - 1 - i]? = some x := e
        rw [List.getElem?_map, hl] at e
        exact (Option.some.inj e).symm
      subst hx
      have hd : ws.drop (ws.length - (i + 1)) = l :: ws.drop (ws.length - i) := by
        rw [show ws.length - (i + 1) = ws.length - 1 - i by omega, List.drop_eq_getElem_cons hlt, ← (List.getElem?_eq_some_iff.mp hl).2, show ws.length - 1 - i + 1 = ws.length - i by omega]
      obtain ⟨ks1, ds1, f1⟩ := fo.drop (ws.length - (i + 1)) (by omega)
      rw [hd] at f1
      obtain ⟨ks2, D, f2, e2, q2, v2⟩ := f1.tail
      have eD := f2.fold
      rw [eD] at iss
      have lys : ys.length ≤ 10000 := by
        have := iss.1
        have := f2.small
        rw [List.length_drop] at this
        omega
      have nx : (ws.drop (ws.length - (i + 1))).foldr stW [] = stW l D := by rw [hd, List.foldr_cons, eD]
      rw [nx]
      have l10 := ll l (List.mem_of_getElem? hl)
      cases hp : partsOf (S l) with
      | none =>
        have hk : kindsOf l = none := by
          unfold kindsOf
          rw [hp]
          rfl
        refine ⟨_, rfl, S l, none, rfl, rfl, PA.no _ hp, _, rfl, ite2 (fun z => absurd z (by decide)) (fun _ => ?_)⟩
        obtain ⟨x, hv⟩ := Option.isSome_iff_exists.mp (v2 hk)
        have st : stW l D = x.dat :: D := by
          unfold stW
          rw [hk, hv]
        rw [st]
        have fit : (S l).length ≤ sizeLine := by rw [S_len, sizeLine_eq]; omega
        have add : ∀ v, v = x.v → ∃ l2 xs y, (V.ref pl) = V.ref l2 ∧ [v] = [y] ∧ H1 l2 = some (.lst xs) ∧ xs.length < sizeLine ∧ ∃ (ys : List V) (x2' x3' x4' : Option V), [some (V.ref wp), some (.ref pl), some (.str (S l)), x3, x4] = [some (.ref wp), some (.ref pl), x2', x3', x4'] ∧ Same H (L2.upd H1 l2 (.lst (xs ++ [y]))) ∧ (L2.upd H1 l2 (.lst (xs ++ [y]))) pl = some (.lst ys.reverse) ∧ Iss K (L2.upd H1 l2 (.lst (xs ++ [y]))) ys (x.dat :: D) := by
          rintro v rfl
          refine ⟨pl, _, _, rfl, rfl, hpl, by rw [List.length_reverse, sizeLine_eq]; omega, x.v :: ys, _, _, _, rfl, s2.put npl, ?_, .cons x.is (iss.keep (SmT.chg hpl .lst))⟩
          rw [List.reverse_cons]
          exact upd_same
        refine ⟨_, rfl, ⟨_, rfl⟩, S l, S [61], rfl, rfl, _, rfl, ?_⟩
        rw [starts1]
        rcases valW_eq hv with ⟨r, rfl, rfl, _⟩ | ⟨fk, rfl, _, nr⟩
        · refine ite2 (fun _ => ?_) (fun z => absurd rfl z)
          have e1 : cutS (S (61 :: r)) (some 1) none = S r := by
            unfold cutS
            rw [HT.sIx_none, show (some (1 : Int)) = some ((1 : Nat) : Int) from rfl, HT.sIx_nat, S_len, List.length_cons, Nat.min_eq_left (by omega), List.drop_succ_cons, List.drop_zero, List.take_of_length_le (by omega)]
          refine ⟨_, rfl, .inl ⟨rfl, _, SqL.of hpl⟩, _, rfl, _, rfl, S (61 :: r), rfl, fit, ?_⟩
          rw [e1]
          exact add _ rfl
        · obtain ⟨i1, _, _, i4⟩ := fig_int fk
          refine ite2 (fun c => ?_) (fun _ => ?_)
          · have c := of_decide_eq_true c
            cases l with
            | nil => cases c
            | cons a r =>
              cases c
              exact absurd rfl (nr r)
          · exact ⟨_, rfl, .inl ⟨rfl, _, SqL.of hpl⟩, _, rfl, S l, _, rfl, i1, by rw [S_len]; omega, add _ rfl⟩
      | some ps =>
        have hk : kindsOf l = some (ps.map fun p => decide (p = condS)) := by
          unfold kindsOf
          rw [hp]
          rfl
        obtain ⟨t0, yes, _⟩ := PA.yes _ _ hp
        obtain ⟨t', kd, q'⟩ := PA.kd hp
        refine ⟨_, rfl, S l, some (.ref t0), rfl, rfl, yes, _, rfl, ite2 (fun _ => ?_) (fun z => absurd rfl z)⟩
        have qD := q2 _ hk
        rw [List.length_map] at qD
        have st : stW l D = .tup (.str (S l) :: D.take ps.length) :: D.drop ps.length := by
          unfold stW
          rw [hk]
          show Dat.tup (.str (S l) :: D.take (ps.map _).length) :: D.drop (ps.map _).length = _
          rw [List.length_map]
        rw [st]
        have lyD := iss.1
        refine ⟨_, rfl, (by show 1 ≤ sizeLine; decide), fun ql nql => ?_⟩
        have qlpl : ql ≠ pl := fun e => by
          rw [e, hpl] at nql
          cases nql
        have hpl2 := Same.upd (o := .lst [V.str (S l)]) nql _ _ hpl
        have Hql : H ql = none := s2.free nql
        refine ⟨_, rfl, pd, S l, .ref t', rfl, rfl, kd, t', rfl, ⟨_, q' _⟩, ?_⟩
        refine for_it (walk_tup (xs := ps.map V.str)) (fun j σ H' => ∃ (x4 : Option V), σ = [some (.ref wp), some (.ref pl), some (.str (S l)), some (.ref ql), x4] ∧ Same H H' ∧ SmT H1 H' ∧ H' pl = some (.lst (ys.drop j).reverse) ∧ H' ql = some (.lst (V.str (S l) :: ys.take j)))
          ⟨x4, rfl, s2.upd' nql, .of (Same.upd nql), hpl2, upd_same⟩ (fun _ _ _ _ _ => q' _) ?_ ?_
        · rintro j x σ H3' H3 hj ⟨x5, rfl, s3, sm3, hpl3, hql3⟩ ⟨rfl, e⟩
          rw [List.length_map] at hj
          obtain ⟨y, hy⟩ : ∃ y, ys[j]? = some y := ⟨_, List.getElem?_eq_getElem (by omega)⟩
          have hdj : ys.drop j = y :: ys.drop (j + 1) := by
            rw [List.drop_eq_getElem_cons (by omega), ← (List.getElem?_eq_some_iff.mp hy).2]
          rw [hdj, List.reverse_cons] at hpl3
          have et : ∀ xs : List V, (xs ++ [y])[(xs ++ [y]).length - 1]? = some y := fun xs => by
            rw [List.length_append, List.getElem?_append_right (by simp)]
            simp
          refine ⟨_, rfl, .inl ⟨rfl, _, SqL.of hql3⟩, _, rfl, .inl ⟨rfl, _, SqL.of hpl3⟩, pl, _, y, rfl, rfl, hpl3, et _, ?_⟩
          rw [List.dropLast_concat]
          have hql4 : (L2.upd H3 pl (.lst (ys.drop (j + 1)).reverse)) ql = some (.lst (V.str (S l) :: ys.take j)) := (upd_ne qlpl).trans hql3
          refine ⟨ql, _, y, rfl, rfl, hql4, ?_, ?_⟩
          · rw [List.length_cons, List.length_take, sizeLine_eq]
            omega
          · refine ⟨_, rfl, (s3.put npl).put Hql, (sm3.trans (SmT.chg hpl3 .lst)).trans (SmT.chg hql4 .lst), (upd_ne (Ne.symm qlpl)).trans upd_same, ?_⟩
            rw [List.take_succ, hy]
            exact upd_same
        · rintro σ H3 ⟨x5, rfl, s3, sm3, hpl3, hql3⟩
          rw [List.length_map] at hpl3 hql3
          refine ⟨_, rfl, .inl ⟨rfl, _, SqL.of hpl3⟩, _, rfl, ql, _, rfl, .inl ⟨SqL.of hql3, fun p np => ?_⟩⟩
          have sp := Same.upd (o := .tup (V.str (S l) :: ys.take ps.length)) np
          have hpl4 := sp _ _ hpl3
          refine ⟨pl, _, .ref p, rfl, rfl, hpl4, ?_, ?_⟩
          · rw [List.length_reverse, List.length_drop, sizeLine_eq]
            omega
          · have sm4 : SmT (L2.upd H3 p (.tup (V.str (S l) :: ys.take ps.length))) (L2.upd (L2.upd H3 p (.tup (V.str (S l) :: ys.take ps.length))) pl (.lst ((ys.drop ps.length).reverse ++ [.ref p]))) := SmT.chg hpl4 .lst
            have iss4 := iss.keep ((sm3.trans (.of sp)).trans sm4)
            have sq4 : SqT K (L2.upd (L2.upd H3 p (.tup (V.str (S l) :: ys.take ps.length))) pl (.lst ((ys.drop ps.length).reverse ++ [.ref p]))) p (V.str (S l) :: ys.take ps.length) := sm4.seqT (SqT.of upd_same)
            have c4 := Iss.cons (K := K) (H := L2.upd (L2.upd H3 p (.tup (V.str (S l) :: ys.take ps.length))) pl (.lst ((ys.drop ps.length).reverse ++ [.ref p]))) (.str (S l)) (iss4.take ps.length)
            refine ⟨.ref p :: ys.drop ps.length, _, _, _, rfl, (s3.upd' np).put npl, ?_, .cons (.tup sq4 c4.1 c4.2) (iss4.drop ps.length)⟩
            rw [List.reverse_cons]
            exact upd_same
    · rintro σ H2 ⟨ys, x2, x3, x4, rfl, s2, hpl, iss⟩
      rw [lenw, Nat.sub_self, List.drop_zero, fo.fold] at iss
      obtain ⟨v, rfl⟩ : ∃ v, ys = [v] := List.length_eq_one_iff.mp iss.1
      refine ⟨_, rfl, pl, _, 0, _, rfl, rfl, SqL.of hpl, at_of (z := 0) (j := 0) rfl rfl, k _ v s2 iss.uncons.1⟩
end
end K3

set_option Elab.async false
set_option linter.all false
set_option maxRecDepth 100000
/-! KTx: texts cut at blanks and joined by blanks -/
namespace K3
open PySem PySem.Spec PyProof.Rows L2 SX
/-- the words of a text -/
def cutW (l : List Nat) : List (List Nat) := TL.spl [32] 0 [] l
theorem pre1 (c : Nat) (r : List Nat) : TL.pre [32] (c :: r) = decide (c = 32) := by
  show ((c :: r).take 1 == [32]) = _
  have e : (c :: r).take 1 = [c] := rfl
  rw [e]
  by_cases h : c = 32
  · subst h
    rfl
  · rw [decide_eq_false h]
    exact beq_eq_false_iff_ne.mpr fun z => h (by cases z; rfl)
theorem spl1 : ∀ (l acc : List Nat), (∀ w ∈ TL.spl [32] 0 acc l, (∀ c ∈ w, c ∈ acc ∨ c ∈ l) ∧ w.length ≤ acc.length + l.length ∧ (32 ∉ acc → 32 ∉ w)) ∧ (TL.spl [32] 0 acc l).length = l.count 32 + 1
  | [], acc => by
    refine ⟨fun w hw => ?_, rfl⟩
    rw [TL.spl_nil] at hw
    obtain rfl := List.mem_singleton.mp hw
    exact ⟨fun c hc => .inl hc, Nat.le_add_right _ _, fun h => h⟩
  | c :: r, acc => by
    by_cases e : c = 32
    · subst e
      rw [TL.spl_hit (by rw [pre1]; rfl)]
      obtain ⟨h1, h2⟩ := spl1 r []
      refine ⟨fun w hw => ?_, ?_⟩
      · rcases List.mem_cons.mp hw with rfl | hw
        · exact ⟨fun c hc => .inl hc, Nat.le_add_right _ _, fun h => h⟩
        · obtain ⟨g1, g2, g3⟩ := h1 w hw
          refine ⟨fun c hc => ?_, ?_, fun _ => g3 (by simp)⟩
          · rcases g1 c hc with h | h
            · cases h
            · exact .inr (List.mem_cons_of_mem _ h)
          · rw [List.length_nil] at g2
            rw [List.length_cons]
            omega
      · rw [List.length_cons, List.count_cons_self]
        have h2 : (TL.spl [32] 0 [] r).length = r.count 32 + 1 := h2
        show (TL.spl [32] 0 [] r).length + 1 = _
        rw [h2]
    · rw [TL.spl_miss (by rw [pre1]; exact decide_eq_false e)]
      obtain ⟨h1, h2⟩ := spl1 r (acc ++ [c])
      refine ⟨fun w hw => ?_, ?_⟩
      · obtain ⟨g1, g2, g3⟩ := h1 w hw
        refine ⟨fun x hx => ?_, ?_, fun h => g3 ?_⟩
        · rcases g1 x hx with h | h
          · rcases List.mem_append.mp h with h | h
            · exact .inl h
            · obtain rfl := List.mem_singleton.mp h
              exact .inr List.mem_cons_self
          · exact .inr (List.mem_cons_of_mem _ h)
        · rw [List.length_append] at g2
          rw [List.length_cons]
          simp only [List.length_cons, List.length_nil] at g2
          omega
        · intro z
          rcases List.mem_append.mp z with z | z
          · exact h z
          · exact e (List.mem_singleton.mp z).symm
      · rw [h2, List.count_cons_of_ne e]
theorem cutW_sub {l : List Nat} {w : List Nat} (h : w ∈ cutW l) : (∀ c ∈ w, c ∈ l) ∧ w.length ≤ l.length ∧ 32 ∉ w := by
  obtain ⟨g1, g2, g3⟩ := (spl1 l []).1 w h
  refine ⟨fun c hc => ?_, by simpa using g2, g3 (by simp)⟩
  rcases g1 c hc with h | h
  · cases h
  · exact h
theorem cutW_len (l : List Nat) : (cutW l).length = l.count 32 + 1 := (spl1 l []).2
/-- words joined by blanks -/
def glueW (ws : List (List Nat)) : List Nat := TL.joinL [32] ws
theorem glueW_ok : ∀ (ws : List (List Nat)), (∀ w ∈ ws, 32 ∉ w) → (glueW ws).count 32 ≤ ws.length - 1 ∧ (∀ c ∈ glueW ws, c = 32 ∨ ∃ w ∈ ws, c ∈ w) ∧ (glueW ws).length ≤ (ws.map (·.length)).sum + ws.length
  | [], _ => ⟨Nat.le_refl _, (fun c h => nomatch h), Nat.le_refl _⟩
  | [w], h => by
    refine ⟨?_, fun c hc => .inr ⟨w, List.mem_cons_self, hc⟩, ?_⟩
    · show w.count 32 ≤ 0
      rw [List.count_eq_zero.mpr (h w List.mem_cons_self)]
      exact Nat.le_refl _
    · show w.length ≤ w.length + 0 + 1
      omega
  | w :: v :: r, h => by
    obtain ⟨h1, h2, h3⟩ := glueW_ok (v :: r) fun x hx => h x (List.mem_cons_of_mem _ hx)
    have e : glueW (w :: v :: r) = w ++ ([32] ++ glueW (v :: r)) := rfl
    refine ⟨?_, fun c hc => ?_, ?_⟩
    · rw [e, List.count_append, List.count_append, List.count_eq_zero.mpr (h w List.mem_cons_self)]
      show 0 + (1 + _) ≤ _
      rw [List.length_cons] at h1 ⊢
      rw [List.length_cons]
      omega
    · rw [e] at hc
      rcases List.mem_append.mp hc with hc | hc
      · exact .inr ⟨w, List.mem_cons_self, hc⟩
      · rcases List.mem_append.mp hc with hc | hc
        · exact .inl (List.mem_singleton.mp hc)
        · rcases h2 c hc with h | ⟨x, hx, hc⟩
          · exact .inl h
          · exact .inr ⟨x, List.mem_cons_of_mem _ hx, hc⟩
    · rw [e, List.length_append, List.length_append]
      show w.length + (1 + _) ≤ _
      rw [List.map_cons, List.sum_cons, List.length_cons]
      omega
theorem Fo.tame {ks : List Bool} {ws : List (List Nat)} {ds : List Dat} {n : Nat} (f : Fo ks ws ds n) : ∀ d ∈ ds, Tame d := by
  induction f with
  | nil => exact fun d h => nomatch h
  | @val w x ks ws ds n h _ ih =>
    intro d hd
    rcases List.mem_cons.mp hd with rfl | hd
    · have g := valW_good h
      cases x with
      | num i => exact .int i
      | wrd l =>
        refine .str ?_
        rw [S_len]
        have := g.1
        omega
    · exact ih d hd
  | node h a _ ih1 ih2 =>
    intro d hd
    rcases List.mem_cons.mp hd with rfl | hd
    · refine .tup ?_ fun e he => ?_
      · have := (kinds_val h).2.1
        rw [List.length_cons, a.len]
        omega
      · rcases List.mem_cons.mp he with rfl | he
        · refine .str ?_
          rw [S_len]
          have := (kinds_val h).2.2.2.2
          omega
        · exact ih1 e he
    · exact ih2 d hd
end K3

set_option Elab.async false
set_option linter.all false
set_option maxRecDepth 100000
set_option maxHeartbeats 4000000
/-! KRd: the program's reading of a text -/
namespace K3
open PySem PySem.Spec PyProof.Rows L2 SX
/-- what is told of a text: BadText with its place, BadCondition, or the condition -/
inductive TxD where
  | txt (p : Nat)
  | bad
  | cond (d : Dat)
def txD (ks : List Bool) (l : List Nat) : TxD := match rdW [true] (cutW l) 0 with
  | some p => .txt p
  | none => match (cutW l).foldr stW [] with
    | d :: _ => if goodD ks d = true then .cond d else .bad
    | [] => .bad
def TxOk (l : List Nat) : Prop := l.length ≤ 9000 ∧ ∀ c ∈ l, c < 128
theorem TxOk.words {l : List Nat} (h : TxOk l) : (cutW l).length ≤ 10000 ∧ ∀ w ∈ cutW l, w.length ≤ 10000 ∧ ∀ c ∈ w, c < 128 := by
  refine ⟨?_, fun w hw => ?_⟩
  · rw [cutW_len]
    have := List.count_le_length (a := 32) (l := l)
    have := h.1
    omega
  · obtain ⟨g1, g2, _⟩ := cutW_sub hw
    have := h.1
    exact ⟨by omega, fun c hc => h.2 c (g1 c hc)⟩
section
variable {P : Program} {w : World} {K : PySem.W.Frag} {mg : Str → Option Value} {base : Heap}
abbrev s_read : Stmt := top 36
abbrev N_read : List Str := ["kinds", "text", "words", "condition"]
abbrev P_read : List Str := ["kinds", "text"]
theorem sc_read : FnScope N_read P_read (defScope s_read) := ⟨rfl, rfl, rfl, by decide +kernel, rfl, by decide +kernel, by decide +kernel⟩
def spReadP (K : PySem.W.Frag) (CB CT : Addr) : Sp := fun vs H Q E => ∃ (kp : Addr) (ks : List Bool) (l : List Nat), vs = [.ref kp, .str (S l)] ∧ SqT K H kp (ks.map kdV) ∧ 1 ≤ ks.length ∧ ks.length ≤ 4 ∧ TxOk l ∧
  (match txD ks l with
    | .txt p => ∀ d H', Same H H' → H d = none → H' d = some (.xd [("place", .int (p : Nat))]) → E (.ref CT) (some d) H'
    | .bad => ∀ H', Same H H' → E (.ref CB) none H'
    | .cond d => ∀ H' v, Same H H' → Is K H' v d → Q v H')
theorem ok_read {CB CT : Addr} (T : Txt mg) (D0 : Df K mg "read" s_read P_read) (G_check_kinds : Fn P w K mg base CX0 1 "check_kinds" P_check_kinds (spCkK K)) (G_check_words : Fn P w K mg base (L2.CX P w) 3 "check_words" P_check_words (spCkW K CT))
    (G_built : Fn P w K mg base CX0 1 "built" P_built (spBuilt K)) (G_check_condition : Fn P w K mg base (L2.CX P w) 13 "check_condition" P_check_condition (spCkCX K CB)) : Fn P w K mg base (L2.CX P w) 14 "read" P_read (spReadP K CB CT) := by
  refine D0.okX sc_read (fun vs H Q E h => ?_) (fun f cdv A outer s H vs Q E hr h => ?_)
  · obtain ⟨kp, ks, l, rfl, _⟩ := h
    rfl
  · obtain ⟨kp, ks, l, rfl, hkp, k1, k4, tx, k⟩ := h
    have nd := sc_read.nd
    refine ⟨_, (pss_cons (ps_expr (pe_c G_check_kinds (hr.mono (by decide)) pass0 (pa_cons (pv 0) pa_nil)))
  (pss_cons (ps_set (i := 2) nd rfl (by first | exact Or.inl rfl | exact Or.inr rfl) (pe_split (pv 1) pe_str))
  (pss_cons (ps_expr (pe_c (E := E) G_check_words (hr.mono (by decide)) (passes_at (fun σ => passAt (takes_of rfl rfl rfl rfl) σ)) (pa_cons (pv 2) pa_nil)))
  (pss_cons (ps_set (i := 3) nd rfl (by first | exact Or.inl rfl | exact Or.inr rfl) (pe_c G_built (hr.mono (by decide)) pass0 (pa_cons (pv 2) pa_nil)))
  (pss_cons (ps_expr (pe_c (E := E) G_check_condition (hr.mono (by decide)) (passes_at (fun σ => passAt (takes_of rfl rfl rfl rfl) σ)) (pa_cons (pv 0) (pa_cons (pv 3) pa_nil))))
  (pss_one (ps_ret (pv 3)))))))), ?_⟩
    obtain ⟨w10, ww⟩ := tx.words
    refine ⟨_, rfl, kp, ks, rfl, hkp, k1, k4, ?_⟩
    refine ⟨_, rfl, ⟨_, rfl⟩, S l, S [32], rfl, rfl, rfl, ?_, fun wp nwp => ?_⟩
    · have := tx.1
      rw [S_len, sizeLine_eq]
      omega
    rw [split_S (a := l) (b := [32]) (by decide) (by decide)]
    have s1 := Same.upd (o := .lst (((TL.spl [32] 0 [] l).map S).map V.str)) nwp
    have hw : SqL K (L2.upd H wp (.lst (((TL.spl [32] 0 [] l).map S).map V.str))) wp (wordsV (cutW l)) := by
      rw [show wordsV (cutW l) = ((TL.spl [32] 0 [] l).map S).map V.str from (List.map_map ..).symm]
      exact SqL.of upd_same
    refine ⟨_, rfl, wp, cutW l, rfl, hw, w10, ww, fun er H2 s2 => ?_, fun p er d H2 s2 nd hd => ?_⟩
    rotate_left
    · unfold txD at k
      rw [er] at k
      exact k d H2 (s1.trans s2) (s1.free nd) hd
    obtain ⟨ds, fo⟩ := rd_forest (m := (cutW l).length) (Nat.le_refl _) er
    obtain ⟨d, rfl⟩ : ∃ d, ds = [d] := List.length_eq_one_iff.mp fo.len
    unfold txD at k
    rw [er] at k
    dsimp only at k
    rw [fo.fold] at k
    dsimp only at k
    have s12 := s1.trans s2
    refine ⟨_, rfl, wp, cutW l, d, _, rfl, s2.seq hw, fo, w10, fun x hx => (ww x hx).1, fun H3 v s3 iv => ?_⟩
    have s13 := s12.trans s3
    refine ⟨_, rfl, _, rfl, kp, v, ks, d, rfl, s13.seqT hkp, k4, iv, fo.tame d List.mem_cons_self, fun g H4 s4 => ?_, fun g H4 s4 => ?_⟩
    · rw [g, if_pos rfl] at k
      exact ⟨_, rfl, k H4 v (s13.trans s4) (iv.same s4)⟩
    · rw [g, if_neg (by decide)] at k
      exact k H4 (s13.trans s4)
end
end K3

set_option Elab.async false
set_option linter.all false
set_option maxRecDepth 100000
set_option maxHeartbeats 4000000
/-! KTt: a condition's words, by the law -/
namespace K3
open PySem PySem.Spec PyProof.Rows L2 SX
def Vl.word : Vl → List Nat
  | .num i => wI i
  | .wrd l => 61 :: l
def nmW (z : Str) : List Nat := z.cps.toList
theorem S_nmW (z : Str) : S (nmW z) = z := S_tl z
def Cond.name : Cond → Str
  | .all => "all"
  | .is _ _ => "is"
  | .less _ _ => "less"
  | .within _ _ _ => "within"
  | .begins _ _ => "begins"
  | .not _ => "not"
  | .and _ _ => "and"
  | .or _ _ => "or"
def Cond.parts : Cond → List (Vl ⊕ Cond)
  | .all => []
  | .is c x => [.inl (.num c), .inl x]
  | .less c x => [.inl (.num c), .inl x]
  | .within c x y => [.inl (.num c), .inl x, .inl y]
  | .begins c l => [.inl (.num c), .inl (.wrd l)]
  | .not a => [.inr a]
  | .and a b => [.inr a, .inr b]
  | .or a b => [.inr a, .inr b]
def Cond.words : Cond → List (List Nat)
  | .all => [nmW "all"]
  | .is c x => [nmW "is", wI c, x.word]
  | .less c x => [nmW "less", wI c, x.word]
  | .within c x y => [nmW "within", wI c, x.word, y.word]
  | .begins c l => [nmW "begins", wI c, 61 :: l]
  | .not a => nmW "not" :: a.words
  | .and a b => nmW "and" :: (a.words ++ b.words)
  | .or a b => nmW "or" :: (a.words ++ b.words)
def partD : Vl ⊕ Cond → Dat
  | .inl x => x.dat
  | .inr a => a.dat
def partW : Vl ⊕ Cond → List (List Nat)
  | .inl x => [x.word]
  | .inr a => a.words
theorem Cond.dat_parts (cd : Cond) : cd.dat = .tup (.str cd.name :: cd.parts.map partD) := by cases cd <;> rfl
theorem Cond.words_parts (cd : Cond) : cd.words = nmW cd.name :: (cd.parts.map partW).flatten := by
  cases cd <;> simp [Cond.words, Cond.name, Cond.parts, partW, Vl.word]
theorem Cond.parts_deep {cd a : Cond} (h : Sum.inr a ∈ cd.parts) : a.deep < cd.deep := by
  cases cd <;> simp [Cond.parts] at h
  · subst h
    show _ < 1 + _
    omega
  · rcases h with rfl | rfl
    · show _ < 1 + max _ _
      omega
    · show _ < 1 + max _ _
      omega
  · rcases h with rfl | rfl
    · show _ < 1 + max _ _
      omega
    · show _ < 1 + max _ _
      omega
theorem VlOk.good {w : Bool} {x : Vl} (h : VlOk w x) : VlGood x := by
  cases x with
  | num i => exact h.2
  | wrd l => exact h.2
/-- values that fit, at any depth -/
def CondFit : Cond → Prop
  | .all => True
  | .is c x => c ≤ 9999 ∧ VlGood x
  | .less c x => c ≤ 9999 ∧ VlGood x
  | .within c x y => c ≤ 9999 ∧ VlGood x ∧ VlGood y
  | .begins c l => c ≤ 9999 ∧ Lw l
  | .not a => CondFit a
  | .and a b => CondFit a ∧ CondFit b
  | .or a b => CondFit a ∧ CondFit b
theorem CondOk.fit {ks : List Bool} (k4 : ks.length ≤ 4) : ∀ {cd : Cond}, CondOk ks cd → CondFit cd
  | .all, _ => True.intro
  | .is c x, ⟨w, h, g⟩ => ⟨by have := (List.getElem?_eq_some_iff.mp h).1; omega, g.good⟩
  | .less c x, ⟨w, h, g⟩ => ⟨by have := (List.getElem?_eq_some_iff.mp h).1; omega, g.good⟩
  | .within c x y, ⟨w, h, g, g2⟩ => ⟨by have := (List.getElem?_eq_some_iff.mp h).1; omega, g.good, g2.good⟩
  | .begins c l, ⟨h, g⟩ => ⟨by have := (List.getElem?_eq_some_iff.mp h).1; omega, g⟩
  | .not a, h => CondOk.fit k4 (cd := a) h
  | .and a b, ⟨h, g⟩ => ⟨CondOk.fit k4 h, CondOk.fit k4 g⟩
  | .or a b, ⟨h, g⟩ => ⟨CondOk.fit k4 h, CondOk.fit k4 g⟩
theorem CondFit.parts {cd : Cond} (h : CondFit cd) : (∀ x, Sum.inl x ∈ cd.parts → VlGood x) ∧ ∀ a, Sum.inr a ∈ cd.parts → CondFit a := by
  cases cd with
  | all => exact ⟨(fun x h => nomatch h), (fun x h => nomatch h)⟩
  | is c x =>
    obtain ⟨h1, h2⟩ := h
    refine ⟨fun y hy => ?_, fun a ha => by simp [Cond.parts] at ha⟩
    simp [Cond.parts] at hy
    rcases hy with rfl | rfl
    · exact ⟨by omega, by omega⟩
    · exact h2
  | less c x =>
    obtain ⟨h1, h2⟩ := h
    refine ⟨fun y hy => ?_, fun a ha => by simp [Cond.parts] at ha⟩
    simp [Cond.parts] at hy
    rcases hy with rfl | rfl
    · exact ⟨by omega, by omega⟩
    · exact h2
  | within c x x2 =>
    obtain ⟨h1, h2, h3⟩ := h
    refine ⟨fun y hy => ?_, fun a ha => by simp [Cond.parts] at ha⟩
    simp [Cond.parts] at hy
    rcases hy with rfl | rfl | rfl
    · exact ⟨by omega, by omega⟩
    · exact h2
    · exact h3
  | begins c l =>
    obtain ⟨h1, h2⟩ := h
    refine ⟨fun y hy => ?_, fun a ha => by simp [Cond.parts] at ha⟩
    simp [Cond.parts] at hy
    rcases hy with rfl | rfl
    · exact ⟨by omega, by omega⟩
    · exact h2
  | not a =>
    refine ⟨fun y hy => by simp [Cond.parts] at hy, fun b hb => ?_⟩
    simp [Cond.parts] at hb
    subst hb
    exact h
  | and a b =>
    refine ⟨fun y hy => by simp [Cond.parts] at hy, fun c hc => ?_⟩
    simp [Cond.parts] at hc
    rcases hc with rfl | rfl
    · exact h.1
    · exact h.2
  | or a b =>
    refine ⟨fun y hy => by simp [Cond.parts] at hy, fun c hc => ?_⟩
    simp [Cond.parts] at hc
    rcases hc with rfl | rfl
    · exact h.1
    · exact h.2
theorem wordsV_app (a b : List (List Nat)) : wordsV (a ++ b) = wordsV a ++ wordsV b := List.map_append
section
variable {P : Program} {w : World} {K : PySem.W.Frag} {mg : Str → Option Value} {base : Heap}
abbrev s__law_text : Stmt := top 56
abbrev N__law_text : List Str := ["_law_condition_here", "_law_found", "_law_part"]
abbrev P__law_text : List Str := ["_law_condition_here"]
theorem sc__law_text : FnScope N__law_text P__law_text (defScope s__law_text) := ⟨rfl, rfl, rfl, by decide +kernel, rfl, by decide +kernel, by decide +kernel⟩
def spText (K : PySem.W.Frag) (n : Nat) : Sp := fun vs H Q _ => ∃ (v : V) (cd : Cond), vs = [v] ∧ Is K H v cd.dat ∧ CondFit cd ∧ cd.deep ≤ n ∧ cd.words.length ≤ 1000 ∧ ∀ H' p, Same H H' → H p = none → H' p = some (.lst (wordsV cd.words)) → Q (.ref p) H'
theorem ok_text (T : Txt mg) (T4 : Txt4 mg) (D0 : Df K mg "_law_text" s__law_text P__law_text) : ∀ n, Fn P w K mg base CX0 (1 + n) "_law_text" P__law_text (spText K n) := by
  have gen : ∀ n, Fn P w K mg base CX0 n "_law_text" P__law_text (fun vs H Q E => ∃ m, n = m + 1 ∧ spText K m vs H Q E) → Fn P w K mg base CX0 (n + 1) "_law_text" P__law_text (spText K n) := fun n G_text => by
    refine D0.ok sc__law_text (fun vs H Q E h => ?_) (fun f cdv A outer s H vs Q E hr h => ?_)
    · obtain ⟨v, cd, rfl, _⟩ := h
      rfl
    · obtain ⟨v, cd, rfl, iv, fit, dn, wl, k⟩ := h
      have nd := sc__law_text.nd
      refine ⟨_, (pss_cons (ps_set (i := 1) nd rfl (by first | exact Or.inl rfl | exact Or.inr rfl) (pe_lst (pa_cons (pe_ix ix_tup (pv 0) pe_int (fun _ _ => rfl)) pa_nil)))
  (pss_cons (ps_for PassesOwn.never rfl (pi_tup (pe_slice sl_tup (pv 0) (po_some pe_int) po_none)) (pg_name (i := 2) nd rfl (by first | exact Or.inl rfl | exact Or.inr rfl))
  (pss_one (ps_if (pt_val (pe_callB call_isi (by rfl) T.b_isinstance (by decide +kernel) (pa_cons (pv 2) (pa_cons (pe_bltn (v := .ty "tuple") (by rfl) T.b_tuple (by decide +kernel) rfl) pa_nil))))
  (pss_one (ps_set (i := 1) nd rfl (by first | exact Or.inl rfl | exact Or.inr rfl) (pe_op op_cat (pv 1) (pe_c G_text hr pass0 (pa_cons (pv 2) pa_nil)))))
  (pss_one (ps_expr (pe_bm PySem.F.plainAttrs_list PySem.F.slot_list_append PySem.F.type_list_append mt_append (pv 1) (pa_cons (pe_ifExp (pt_val (pe_callB call_isi (by rfl) T.b_isinstance (by decide +kernel) (pa_cons (pv 2) (pa_cons (pe_bltn (v := .ty "str") (by rfl) T4.b_str (by decide +kernel) rfl) pa_nil)))) (pe_op op_add_str pe_str (pv 2)) (pe_callTy call_str_int (by rfl) T4.b_str (by decide +kernel) (pa_cons (pv 2) pa_nil))) pa_nil)))))))
  (pss_one (ps_ret (pv 1))))), ?_⟩
      rw [cd.dat_parts] at iv
      rw [cd.words_parts] at wl k
      obtain ⟨fitv, fitc⟩ := fit.parts
      have dp : ∀ a, Sum.inr a ∈ cd.parts → a.deep < cd.deep := fun a h => Cond.parts_deep h
      generalize cd.parts = pts at iv wl k fitv fitc dp
      obtain ⟨a, xs, rfl, ha, ixs⟩ := is_tup iv
      obtain ⟨x, ys, rfl⟩ : ∃ x ys, xs = x :: ys := by
        cases xs with
        | nil => cases ixs.1
        | cons x ys => exact ⟨x, ys, rfl⟩
      obtain ⟨ix, iys⟩ := ixs.uncons
      cases ix
      refine ⟨_, rfl, a, _, 0, _, rfl, rfl, ha, at_of (z := 0) (j := 0) rfl rfl, (by show 1 ≤ sizeLine; decide), fun fd nfd => ?_⟩
      have s1 := Same.upd (o := .lst [V.str cd.name]) nfd
      have hs1 : HT.sIx (V.str cd.name :: ys).length 0 (some 1) = 1 := by
        have : HT.sIx (V.str cd.name :: ys).length 0 (some ((1 : Nat) : Int)) = _ := HT.sIx_nat ..
        rw [show (some (1 : Int)) = some ((1 : Nat) : Int) from rfl, this, List.length_cons]
        omega
      refine ⟨_, rfl, _, rfl, a, _, rfl, s1.seqT ha, (fun h => by rw [hs1] at h; exact absurd h.1 (by decide)), fun q nq => ?_⟩
      rw [show cutV (V.str cd.name :: ys) (some 1) none = ys from cut_from _ 1]
      have sq := s1.upd' (o := .tup ys) nq
      have ly : ys.length = pts.length := by
        rw [iys.1, List.length_map]
      have hname : V.str cd.name = V.str (S (nmW cd.name)) := by rw [S_nmW]
      refine ⟨q, rfl, ⟨_, SqT.of upd_same⟩, ?_⟩
      refine for_it (walk_tup (xs := ys)) (fun i σ H' => ∃ (fd : Addr) (x2 : Option V), σ = [some (.ref a), some (.ref fd), x2] ∧ Same H H' ∧ H fd = none ∧ H' q = some (.tup ys) ∧ H' fd = some (.lst (wordsV (nmW cd.name :: ((pts.take i).map partW).flatten))))
        ⟨fd, none, rfl, sq, nfd, upd_same, ?_⟩ (fun _ _ _ _ ⟨_, _, _, _, _, h, _⟩ => SqT.of h) ?_ ?_
      · have := Same.upd (o := .tup ys) nq _ _ (upd_same (H := H) (a := fd) (o := .lst [V.str cd.name]))
        rw [hname] at this ⊢
        exact this
      · rintro i x σ H1' H1 hi ⟨fd, x2, rfl, s2, nfd, hq, hfd⟩ ⟨rfl, e⟩
        obtain ⟨pt, hpt⟩ : ∃ pt, pts[i]? = some pt := ⟨_, List.getElem?_eq_getElem (by omega)⟩
        have ix := (iys.2 i x (partD pt) e (by rw [List.getElem?_map, hpt]; rfl)).same s2
        have tk : ((pts.take (i + 1)).map partW).flatten = ((pts.take i).map partW).flatten ++ partW pt := by
          rw [List.take_succ, hpt, List.map_append, List.flatten_append]
          simp
        have few : (((pts.take i).map partW).flatten ++ partW pt).length ≤ 999 := by
          rw [← tk]
          have l1 : (pts.map partW).flatten = ((pts.take (i + 1)).map partW).flatten ++ ((pts.drop (i + 1)).map partW).flatten := by rw [← List.flatten_append, ← List.map_append, List.take_append_drop]
          have l1 := congrArg List.length l1
          rw [List.length_append] at l1
          rw [List.length_cons] at wl
          omega
        rw [List.length_append] at few
        have mem := List.mem_of_getElem? hpt
        refine ⟨_, rfl, _, .ty "tuple", _, .type "tuple", _, rfl, .ty _, ix.ty, kit_tup _, _, rfl, ?_⟩
        cases pt with
        | inr b =>
          refine ite2 (fun _ => ?_) (fun z => ?_)
          · have db := dp b mem
            obtain ⟨m, rfl⟩ : ∃ m, n = m + 1 := ⟨n - 1, by omega⟩
            have pw : partW (.inr b) = b.words := rfl
            refine ⟨_, rfl, _, rfl, m, rfl, x, b, rfl, ix, fitc b mem, by omega, by rw [← pw]; omega, fun H2 p s3 np hp => ?_⟩
            have hfd2 := s3 _ _ hfd
            refine ⟨fd, p, _, _, rfl, rfl, hfd2, hp, ?_, fun r nr => ?_⟩
            · have : sizeLine = 16777216 := sizeLine_eq
              rw [List.length_map, List.length_map, List.length_cons]
              rw [pw] at few
              omega
            · refine ⟨r, _, rfl, (s2.trans s3).upd' nr, (s2.trans s3).free nr, Same.upd nr _ _ (s3 _ _ hq), ?_⟩
              rw [tk, pw, ← List.cons_append, wordsV_app]
              exact upd_same
          · refine absurd ?_ z
            show (Dat.isTup b.dat) = true
            cases b <;> rfl
        | inl y =>
          have hne : ∀ w, V.str (S w) = V.str (S w) := fun _ => rfl
          have fin : ∀ v, v = V.str (S y.word) → ∃ l xs z, V.ref fd = V.ref l ∧ [v] = [z] ∧ H1 l = some (.lst xs) ∧ xs.length < sizeLine ∧ ∃ (fd' : Addr) (x2' : Option V), [some (V.ref a), some (.ref fd), some x] = [some (.ref a), some (.ref fd'), x2'] ∧ Same H (L2.upd H1 l (.lst (xs ++ [z]))) ∧ H fd' = none ∧ (L2.upd H1 l (.lst (xs ++ [z]))) q = some (.tup ys) ∧
              (L2.upd H1 l (.lst (xs ++ [z]))) fd' = some (.lst (wordsV (nmW cd.name :: ((pts.take (i + 1)).map partW).flatten))) := by
            rintro v rfl
            refine ⟨fd, _, _, rfl, rfl, hfd, ?_, fd, _, rfl, s2.put nfd, nfd, (upd_ne fun z => by rw [z, hfd] at hq; cases hq).trans hq, ?_⟩
            · have : sizeLine = 16777216 := sizeLine_eq
              rw [List.length_map, List.length_cons]
              omega
            · rw [tk, ← List.cons_append, wordsV_app]
              exact upd_same
          have gy := fitv y mem
          refine ite2 (fun z => ?_) (fun _ => ?_)
          · refine absurd z ?_
            show ¬ (Dat.isTup y.dat) = true
            cases y <;> exact fun z => by cases z
          refine ⟨_, rfl, .inl ⟨rfl, _, SqL.of hfd⟩, _, rfl, _, .ty "str", _, .type "str", _, rfl, .ty _, ix.ty, kit_str _, _, rfl, ?_⟩
          have hx := Vl.of ix
          subst hx
          cases y with
          | wrd l =>
            refine ite2 (fun _ => ?_) (fun z => absurd rfl z)
            refine ⟨_, rfl, S [61], S l, rfl, rfl, ?_, ?_⟩
            · have := gy.1
              rw [S_len, S_len, sizeLine_eq]
              show 1 + l.length ≤ _
              omega
            · rw [S_cat]
              exact fin _ rfl
          | num j =>
            refine ite2 (fun z => Bool.noConfusion (show false = true from z)) (fun _ => ?_)
            have g : -9999 ≤ j ∧ j ≤ 9999 := gy
            have lg : j.natAbs.log2 < 1920 := by
              by_cases z : j.natAbs = 0
              · rw [z]
                decide
              · exact (Nat.log2_lt z (k := 1920)).mpr (Nat.lt_of_lt_of_le (show j.natAbs < 2 ^ 14 by omega) (Nat.pow_le_pow_right (by decide) (by decide)))
            refine ⟨_, rfl, j, rfl, lg, fin _ ?_⟩
            show V.str (Str.ofString (toString j)) = V.str (S (wI j))
            rw [S_wI]
      · rintro σ H1 ⟨fd, x2, rfl, s2, nfd, hq, hfd⟩
        rw [ly, List.take_length] at hfd
        exact ⟨_, rfl, k _ fd s2 nfd hfd⟩
  intro n
  induction n with
  | zero => exact gen 0 (D0.void.imp fun vs H Q E ⟨m, z, _⟩ => by cases z)
  | succ n ih =>
    have := gen (n + 1) (by
      rw [show n + 1 = 1 + n by omega]
      exact ih.imp fun vs H Q E ⟨m, z, hh⟩ => by
        obtain rfl : n = m := by omega
        exact hh)
    rw [show 1 + (n + 1) = (n + 1) + 1 by omega]
    exact this
end
end K3

set_option Elab.async false
set_option linter.all false
set_option maxRecDepth 100000
/-! KTy: how long the words of a condition are, and of which signs -/
namespace K3
open PySem PySem.Spec PyProof.Rows L2 SX
theorem wI_nat (n : Nat) : wI ((n : Nat) : Int) = TL.numL n := TL.tl_num n
theorem wI_neg (n : Nat) : wI (Int.negSucc n) = 45 :: TL.numL (n + 1) := by
  have e : toString (Int.negSucc n) = "-" ++ toString (((n + 1 : Nat)) : Int) := rfl
  show TL.tl (Str.ofString (toString (Int.negSucc n))) = _
  rw [e, TL.tl_ofString, String.toList_append, List.map_append, ← TL.tl_ofString, ← TL.tl_ofString, TL.tl_num]
  rfl
/-- a word: few signs, no blank, all of the first 128 -/
def WdOk (w : List Nat) : Prop := w.length ≤ 8 ∧ ∀ c ∈ w, c < 128 ∧ c ≠ 32
theorem wI_ok {i : Int} (h : -9999 ≤ i ∧ i ≤ 9999) : WdOk (wI i) := by
  have dig : ∀ n : Nat, n < 10 ^ 4 → (TL.numL n).length ≤ 4 ∧ ∀ c ∈ TL.numL n, c < 128 ∧ c ≠ 32 := fun n hn => by
    refine ⟨TL.numL_len (by decide) hn, fun c hc => ?_⟩
    have := TL.numL_digits n c hc
    omega
  cases i with
  | ofNat n =>
    obtain ⟨h1, h2⟩ := dig n (by
      have h := h.2
      have e : (10 : Nat) ^ 4 = 10000 := by decide
      have : Int.ofNat n ≤ 9999 := h
      simp only [Int.ofNat_eq_natCast] at this
      omega)
    rw [show Int.ofNat n = ((n : Nat) : Int) from rfl, wI_nat]
    exact ⟨by omega, h2⟩
  | negSucc n =>
    obtain ⟨h1, h2⟩ := dig (n + 1) (by
      have e : (10 : Nat) ^ 4 = 10000 := by decide
      have := h.1
      omega)
    rw [wI_neg]
    refine ⟨by rw [List.length_cons]; omega, fun c hc => ?_⟩
    rcases List.mem_cons.mp hc with rfl | hc
    · decide
    · exact h2 c hc
theorem vl_word {x : Vl} (h : VlGood x) : WdOk x.word := by
  cases x with
  | num i => exact wI_ok h
  | wrd l =>
    refine ⟨?_, fun c hc => ?_⟩
    · have := h.1
      show (61 :: l).length ≤ 8
      rw [List.length_cons]
      omega
    · rcases List.mem_cons.mp hc with rfl | hc
      · decide
      · have := h.2 c hc
        omega
theorem wdOk_by {w : List Nat} (h : (decide (w.length ≤ 8) && w.all fun c => decide (c < 128) && decide (c ≠ 32)) = true) : WdOk w := by
  rw [Bool.and_eq_true, decide_eq_true_eq, List.all_eq_true] at h
  refine ⟨h.1, fun c hc => ?_⟩
  have := h.2 c hc
  simpa [Bool.and_eq_true, decide_eq_true_eq] using this
theorem words_ok : ∀ {cd : Cond}, CondFit cd → (∀ w ∈ cd.words, WdOk w) ∧ cd.words.length ≤ 4 * cd.many
  | .all, _ => ⟨fun w hw => by
      obtain rfl := List.mem_singleton.mp hw
      exact wdOk_by (by decide), by decide⟩
  | .is c x, ⟨h1, h2⟩ => ⟨fun w hw => by
      simp only [Cond.words, List.mem_cons, List.not_mem_nil, or_false] at hw
      rcases hw with rfl | rfl | rfl
      · exact wdOk_by (by decide)
      · exact wI_ok ⟨by omega, by omega⟩
      · exact vl_word h2, by show 3 ≤ 4 * 1; decide⟩
  | .less c x, ⟨h1, h2⟩ => ⟨fun w hw => by
      simp only [Cond.words, List.mem_cons, List.not_mem_nil, or_false] at hw
      rcases hw with rfl | rfl | rfl
      · exact wdOk_by (by decide)
      · exact wI_ok ⟨by omega, by omega⟩
      · exact vl_word h2, by show 3 ≤ 4 * 1; decide⟩
  | .within c x y, ⟨h1, h2, h3⟩ => ⟨fun w hw => by
      simp only [Cond.words, List.mem_cons, List.not_mem_nil, or_false] at hw
      rcases hw with rfl | rfl | rfl | rfl
      · exact wdOk_by (by decide)
      · exact wI_ok ⟨by omega, by omega⟩
      · exact vl_word h2
      · exact vl_word h3, by show 4 ≤ 4 * 1; decide⟩
  | .begins c l, ⟨h1, h2⟩ => ⟨fun w hw => by
      simp only [Cond.words, List.mem_cons, List.not_mem_nil, or_false] at hw
      rcases hw with rfl | rfl | rfl
      · exact wdOk_by (by decide)
      · exact wI_ok ⟨by omega, by omega⟩
      · exact vl_word (x := .wrd l) h2, by show 3 ≤ 4 * 1; decide⟩
  | .not a, h => by
    obtain ⟨g1, g2⟩ := words_ok (cd := a) h
    refine ⟨fun w hw => ?_, ?_⟩
    · rcases List.mem_cons.mp hw with rfl | hw
      · exact wdOk_by (by decide)
      · exact g1 w hw
    · show (a.words).length + 1 ≤ 4 * (1 + a.many)
      omega
  | .and a b, ⟨h1, h2⟩ => by
    obtain ⟨g1, g2⟩ := words_ok h1
    obtain ⟨g3, g4⟩ := words_ok h2
    refine ⟨fun w hw => ?_, ?_⟩
    · rcases List.mem_cons.mp hw with rfl | hw
      · exact wdOk_by (by decide)
      · rcases List.mem_append.mp hw with hw | hw
        · exact g1 w hw
        · exact g3 w hw
    · show (a.words ++ b.words).length + 1 ≤ 4 * (1 + a.many + b.many)
      rw [List.length_append]
      omega
  | .or a b, ⟨h1, h2⟩ => by
    obtain ⟨g1, g2⟩ := words_ok h1
    obtain ⟨g3, g4⟩ := words_ok h2
    refine ⟨fun w hw => ?_, ?_⟩
    · rcases List.mem_cons.mp hw with rfl | hw
      · exact wdOk_by (by decide)
      · rcases List.mem_append.mp hw with hw | hw
        · exact g1 w hw
        · exact g3 w hw
    · show (a.words ++ b.words).length + 1 ≤ 4 * (1 + a.many + b.many)
      rw [List.length_append]
      omega
/-- a text behind i deeds -/
def TxM (i : Nat) (l : List Nat) : Prop := l.length + 20 ≤ 1000 * 2 ^ i ∧ l.count 32 ≤ 59 + i ∧ ∀ c ∈ l, c < 128
theorem TxM.ok {i : Nat} {l : List Nat} (h : TxM i l) (hi : i ≤ 3) : TxOk l ∧ l.count 32 ≤ 62 := by
  obtain ⟨h1, h2, h3⟩ := h
  have : 2 ^ i ≤ 2 ^ 3 := Nat.pow_le_pow_right (by decide) hi
  have e : (2 : Nat) ^ 3 = 8 := by decide
  exact ⟨⟨by omega, h3⟩, by omega⟩
theorem TxM.of {l : List Nat} (h1 : l.length ≤ 980) (h2 : l.count 32 ≤ 59) (h3 : ∀ c ∈ l, c < 128) : TxM 0 l := ⟨by
  show _ ≤ 1000 * 1
  omega, h2, h3⟩
theorem sum_le : ∀ {ws : List (List Nat)}, (∀ w ∈ ws, WdOk w) → (ws.map (·.length)).sum ≤ 8 * ws.length
  | [], _ => Nat.le_refl _
  | w :: ws, h => by
    have := sum_le (ws := ws) fun x hx => h x (List.mem_cons_of_mem _ hx)
    have := (h w List.mem_cons_self).1
    rw [List.map_cons, List.sum_cons, List.length_cons]
    omega
theorem glue_ok {ws : List (List Nat)} (h : ∀ w ∈ ws, WdOk w) (few : ws.length ≤ 60) : TxM 0 (glueW ws) := by
  obtain ⟨g1, g2, g3⟩ := glueW_ok ws fun w hw z => (h w hw).2 32 z |>.2 rfl
  have := sum_le h
  refine .of (by omega) (by omega) fun c hc => ?_
  rcases g2 c hc with rfl | ⟨w, hw, hc⟩
  · decide
  · exact ((h w hw).2 c hc).1
end K3

set_option Elab.async false
set_option linter.all false
set_option maxRecDepth 100000
set_option maxHeartbeats 4000000
/-! KSp: a text spoilt by one deed -/
namespace K3
open PySem PySem.Spec PyProof.Rows L2 SX
theorem spl_sum : ∀ (l acc : List Nat), ((TL.spl [32] 0 acc l).map (·.length)).sum + (TL.spl [32] 0 acc l).length = acc.length + l.length + 1
  | [], acc => by
    rw [TL.spl_nil]
    show acc.length + 0 + 1 = acc.length + 0 + 1
    rfl
  | c :: r, acc => by
    by_cases e : c = 32
    · subst e
      rw [TL.spl_hit (by rw [pre1]; rfl)]
      have : ((TL.spl [32] 0 [] r).map (·.length)).sum + (TL.spl [32] 0 [] r).length = 0 + r.length + 1 := spl_sum r []
      rw [List.map_cons, List.sum_cons, List.length_cons]
      show acc.length + ((TL.spl [32] 0 [] r).map (·.length)).sum + ((TL.spl [32] 0 [] r).length + 1) = acc.length + (r.length + 1) + 1
      omega
    · rw [TL.spl_miss (by rw [pre1]; exact decide_eq_false e)]
      have := spl_sum r (acc ++ [c])
      rw [List.length_append] at this
      simp only [List.length_cons, List.length_nil] at this
      rw [List.length_cons]
      omega
theorem cutW_sum (l : List Nat) : ((cutW l).map (·.length)).sum + (cutW l).length = l.length + 1 := by
  have := spl_sum l []
  rw [List.length_nil, Nat.zero_add] at this
  exact this
def oddS : List Str := ["", "all", "is", "not", "and", "begins", "0", "-0", "07", "-5", "9999", "10000", "=", "=a", "=abcdefg", "=A", "a", "--1", "Is", "4"]
theorem odd_ok : ∀ z ∈ oddS, WdOk (nmW z) := fun z h => wdOk_by ((List.all_eq_true.mp (by decide +kernel : oddS.all (fun z => decide ((nmW z).length ≤ 8) && (nmW z).all fun c => decide (c < 128) && decide (c ≠ 32)) = true)) z h)
def signS : Str := "0123456789 -=abcdefghijklmnopqrstuvwxyz!#$&'()*+,./:;<>?@ABCDEFGHIJKLMNOPQRSTUVWXYZ[]^_`{|}~"
theorem sign_ok : ∀ c ∈ signS.cps.toList, c < 128 := fun c h => of_decide_eq_true ((List.all_eq_true.mp (by decide +kernel : signS.cps.toList.all (fun c => decide (c < 128)) = true)) c h)
theorem sign_len : signS.length = 92 ∧ signS.cps.toList.length = 92 := by decide +kernel
/-- one word put in another's place -/
theorem spoil_words {i : Nat} {l : List Nat} (h : TxM i l) {k : Nat} {w : List Nat} (hk : (cutW l)[k]? = some w) {mid : List (List Nat)} (hm : mid = [] ∨ mid = [w, w] ∨ ∃ o, WdOk o ∧ mid = [o]) :
    TxM (i + 1) (glueW ((cutW l).take k ++ mid ++ (cutW l).drop (k + 1))) ∧ (((cutW l).take k ++ mid ++ (cutW l).drop (k + 1)).map (·.length)).sum + ((cutW l).take k ++ mid ++ (cutW l).drop (k + 1)).length ≤ 2 * l.length + 20 := by
  obtain ⟨h1, h2, h3⟩ := h
  have hlt := (List.getElem?_eq_some_iff.mp hk).1
  have es : cutW l = (cutW l).take k ++ w :: (cutW l).drop (k + 1) := by
    conv => lhs; rw [← List.take_append_drop k (cutW l)]
    rw [List.drop_eq_getElem_cons hlt, ← (List.getElem?_eq_some_iff.mp hk).2]
  have sm := cutW_sum l
  have cl := cutW_len l
  have sub : ∀ v ∈ cutW l, (∀ c ∈ v, c < 128) ∧ 32 ∉ v := fun v hv => by
    obtain ⟨g1, _, g3⟩ := cutW_sub hv
    exact ⟨fun c hc => h3 c (g1 c hc), g3⟩
  have wm : w ∈ cutW l := List.mem_of_getElem? hk
  have allv : ∀ v ∈ (cutW l).take k ++ mid ++ (cutW l).drop (k + 1), (∀ c ∈ v, c < 128) ∧ 32 ∉ v := fun v hv => by
    rcases List.mem_append.mp hv with hv | hv
    · rcases List.mem_append.mp hv with hv | hv
      · exact sub v (List.mem_of_mem_take hv)
      · rcases hm with rfl | rfl | ⟨o, ho, rfl⟩
        · cases hv
        · have : v = w := by simpa using hv
          subst this
          exact sub v wm
        · obtain rfl := List.mem_singleton.mp hv
          exact ⟨fun c hc => (ho.2 c hc).1, fun z => (ho.2 32 z).2 rfl⟩
    · exact sub v (List.mem_of_mem_drop hv)
  obtain ⟨g1, g2, g3⟩ := glueW_ok _ fun v hv => (allv v hv).2
  rw [es, List.map_append, List.sum_append, List.length_append, List.map_cons, List.sum_cons, List.length_cons] at sm
  rw [List.map_append, List.map_append, List.sum_append, List.sum_append, List.length_append, List.length_append] at g3
  rw [List.length_append, List.length_append] at g1
  have ln := congrArg List.length es
  rw [List.length_append, List.length_cons] at ln
  have mids : (mid.map (·.length)).sum ≤ 2 * w.length + 8 ∧ mid.length ≤ 2 ∧ (mid.length = 2 → (mid.map (·.length)).sum = 2 * w.length) := by
    rcases hm with rfl | rfl | ⟨o, ho, rfl⟩
    · exact ⟨Nat.zero_le _, by decide, fun z => by cases z⟩
    · refine ⟨?_, by show 2 ≤ 2; decide, fun _ => ?_⟩
      · show w.length + (w.length + 0) ≤ _
        omega
      · show w.length + (w.length + 0) = _
        omega
    · refine ⟨?_, by show 1 ≤ 2; decide, fun z => by cases z⟩
      have := ho.1
      show o.length + 0 ≤ _
      omega
  have e2 : 1000 * 2 ^ (i + 1) = 2 * (1000 * 2 ^ i) := by
    rw [Nat.pow_succ]
    omega
  rw [List.map_append, List.map_append, List.sum_append, List.sum_append, List.length_append, List.length_append]
  refine ⟨⟨?_, by omega, fun c hc => ?_⟩, by omega⟩
  · rw [e2]
    omega
  · rcases g2 c hc with rfl | ⟨v, hv, hc⟩
    · decide
    · exact (allv v hv).1 c hc
theorem spoil_sign {i : Nat} {l : List Nat} (h : TxM i l) {p e : Nat} {s : List Nat} (hs : s.length ≤ 1 ∧ ∀ c ∈ s, c < 128) : TxM (i + 1) (l.take p ++ s ++ l.drop (p + e)) := by
  obtain ⟨h1, h2, h3⟩ := h
  have lt := List.length_take_le' p l
  have c1 : (l.take p).count 32 + (l.drop (p + e)).count 32 ≤ l.count 32 := by
    have : (l.take p).count 32 + (l.drop p).count 32 = l.count 32 := by rw [← List.count_append, List.take_append_drop]
    have q : l.drop (p + e) = (l.drop p).drop e := by rw [List.drop_drop]
    have := (List.drop_sublist e (l.drop p)).count_le 32
    rw [q]
    omega
  have c2 : s.count 32 ≤ 1 := Nat.le_trans List.count_le_length hs.1
  have e2 : 1000 * 2 ^ (i + 1) = 2 * (1000 * 2 ^ i) := by
    rw [Nat.pow_succ]
    omega
  refine ⟨?_, ?_, fun c hc => ?_⟩
  · rw [List.length_append, List.length_append, List.length_drop, List.length_take, e2]
    have := hs.1
    omega
  · rw [List.count_append, List.count_append]
    omega
  · rcases List.mem_append.mp hc with hc | hc
    · rcases List.mem_append.mp hc with hc | hc
      · exact h3 c (List.mem_of_mem_take hc)
      · exact hs.2 c hc
    · exact h3 c (List.mem_of_mem_drop hc)
theorem cutS_from (l : List Nat) (m : Nat) : cutS (S l) (some (m : Int)) none = S (l.drop m) := by
  unfold cutS
  rw [HT.sIx_none, HT.sIx_nat, S_len]
  congr 2
  rw [List.take_of_length_le (by rw [List.length_drop]; exact Nat.le_refl _)]
  by_cases c : m ≤ l.length
  · rw [Nat.min_eq_left c]
  · rw [Nat.min_eq_right (by omega), List.drop_length, List.drop_of_length_le (by omega)]
section
variable {P : Program} {w : World} {K : PySem.W.Frag} {mg : Str → Option Value} {base : Heap}
abbrev s__law_spoilt : Stmt := top 57
abbrev N__law_spoilt : List Str := ["_law_box", "_law_text_here", "_law_deed", "_law_words", "_law_k", "_law_odd", "_law_some", "_law_place", "_law_signs", "_law_sign"]
abbrev P__law_spoilt : List Str := ["_law_box", "_law_text_here"]
theorem sc__law_spoilt : FnScope N__law_spoilt P__law_spoilt (defScope s__law_spoilt) := ⟨rfl, rfl, rfl, by decide +kernel, rfl, by decide +kernel, by decide +kernel⟩
def spSpoil (T : List (Addr × Str)) : Sp := fun vs H Q _ => ∃ (b : Addr) (l : List Nat) (i : Nat) (H0 : Hp) (F0 : Foot) (As : List Thing), vs = [.ref b, .str (S l)] ∧ St T H0 F0 (boxT b :: As) H ∧ i ≤ 2 ∧ TxM i l ∧
  ∀ H' l', St T H0 F0 (boxT b :: As) H' → SmT H H' → TxM (i + 1) l' → Q (.str (S l')) H'
theorem ok_spoil {Ts : List (Addr × Str)} (T : Txt mg) (D0 : Df K mg "_law_spoilt" s__law_spoilt P__law_spoilt) (G__law_take : Fn P w K mg base CX0 1 "_law_take" P__law_take (spDraw Ts)) : Fn P w K mg base CX0 2 "_law_spoilt" P__law_spoilt (spSpoil Ts) := by
  refine D0.ok sc__law_spoilt (fun vs H Q E h => ?_) (fun f cdv A outer s H vs Q E hr h => ?_)
  · obtain ⟨b, l, i, H0, F0, As, rfl, _⟩ := h
    rfl
  · obtain ⟨b, l, i, H0', F0', As', rfl, stx, i2, tx, k⟩ := h
    have nd := sc__law_spoilt.nd
    refine ⟨_, (pss_cons (ps_set (i := 2) nd rfl (by first | exact Or.inl rfl | exact Or.inr rfl) (pe_c G__law_take (hr.mono (by decide)) pass0 (pa_cons (pv 0) (pa_cons pe_int pa_nil))))
  (pss_cons (ps_set (i := 3) nd rfl (by first | exact Or.inl rfl | exact Or.inr rfl) (pe_split (pv 1) pe_str))
  (pss_cons (ps_set (i := 4) nd rfl (by first | exact Or.inl rfl | exact Or.inr rfl) (pe_c G__law_take (hr.mono (by decide)) pass0 (pa_cons (pv 0) (pa_cons (pe_callB call_len_seq (by rfl) T.b_len (by decide +kernel) (pa_cons (pv 3) pa_nil)) pa_nil))))
  (pss_cons (ps_set (i := 5) nd rfl (by first | exact Or.inl rfl | exact Or.inr rfl) (pe_lst (pa_cons pe_str (pa_cons pe_str (pa_cons pe_str (pa_cons pe_str (pa_cons pe_str (pa_cons pe_str (pa_cons pe_str (pa_cons pe_str (pa_cons pe_str (pa_cons pe_str (pa_cons pe_str (pa_cons pe_str (pa_cons pe_str (pa_cons pe_str (pa_cons pe_str (pa_cons pe_str pa_nil))))))))))))))))))
  (pss_cons (ps_set (i := 5) nd rfl (by first | exact Or.inl rfl | exact Or.inr rfl) (pe_op op_cat (pv 5) (pe_lst (pa_cons pe_str (pa_cons pe_str (pa_cons pe_str (pa_cons pe_str pa_nil)))))))
  (pss_cons (ps_if (pt_cmpR op_lt (pv 2) pe_int (nomark _))
  (pss_cons (ps_set (i := 6) nd rfl (by first | exact Or.inl rfl | exact Or.inr rfl) (pe_lst (pa_cons (pe_lst pa_nil) (pa_cons (pe_lst (pa_cons (pe_ix ix_list (pv 3) (pv 4) (fun _ _ => rfl)) (pa_cons (pe_ix ix_list (pv 3) (pv 4) (fun _ _ => rfl)) pa_nil))) (pa_cons (pe_lst (pa_cons (pe_ix ix_list (pv 5) (pe_c G__law_take (hr.mono (by decide)) pass0 (pa_cons (pv 0) (pa_cons pe_int pa_nil))) (fun _ _ => rfl)) pa_nil)) pa_nil)))))
  (pss_one (ps_ret (pe_join pe_str (pe_op op_cat (pe_op op_cat (pe_slice sl_list (pv 3) po_none (po_some (pv 4))) (pe_ix ix_list (pv 6) (pv 2) (fun _ _ => rfl))) (pe_slice sl_list (pv 3) (po_some (pe_op op_add (pv 4) pe_int)) po_none))))))
  pss_nil)
  (pss_cons (ps_set (i := 7) nd rfl (by first | exact Or.inl rfl | exact Or.inr rfl) (pe_c G__law_take (hr.mono (by decide)) pass0 (pa_cons (pv 0) (pa_cons (pe_op op_add (pe_callB call_len_str (by rfl) T.b_len (by decide +kernel) (pa_cons (pv 1) pa_nil)) pe_int) pa_nil))))
  (pss_cons (ps_set (i := 8) nd rfl (by first | exact Or.inl rfl | exact Or.inr rfl) pe_str)
  (pss_cons (ps_set (i := 9) nd rfl (by first | exact Or.inl rfl | exact Or.inr rfl) (pe_ix ix_list (pe_lst (pa_cons (pe_ix ix_str (pv 8) (pe_c G__law_take (hr.mono (by decide)) pass0 (pa_cons (pv 0) (pa_cons (pe_callB call_len_str (by rfl) T.b_len (by decide +kernel) (pa_cons (pv 8) pa_nil)) pa_nil))) (fun _ _ => rfl)) (pa_cons pe_str (pa_cons (pe_ix ix_str (pv 8) (pe_c G__law_take (hr.mono (by decide)) pass0 (pa_cons (pv 0) (pa_cons pe_int pa_nil))) (fun _ _ => rfl)) pa_nil)))) (pe_op op_sub (pv 2) pe_int) (fun _ _ => rfl)))
  (pss_one (ps_ret (pe_op op_add_str (pe_op op_add_str (pe_slice sl_str (pv 1) po_none (po_some (pv 7))) (pv 9)) (pe_slice sl_str (pv 1) (po_some (pe_op op_add (pv 7) (pe_callTy call_int1 (by rfl) T.b_int (by decide +kernel) (pa_cons (pe_cmpR op_gt (pv 2) pe_int (nomark _)) pa_nil)))) po_none))))))))))))), ?_⟩
    obtain ⟨F0, hF, back⟩ := stx.step (Cs := [boxT b]) (Ds := As') (.refl _)
    have st : St Ts H F0 [boxT b] H := .start hF stx.tabs
    obtain ⟨tok, _⟩ := tx.ok (by omega)
    refine ⟨_, rfl, b, 6, rfl, _, _, _, st, by decide, by decide, fun H1 deed st1 _ d0 d1 => ?_⟩
    refine ⟨_, rfl, ⟨_, rfl⟩, S l, S [32], rfl, rfl, rfl, by have := tok.1; rw [S_len, sizeLine_eq]; omega, fun wp nwp => ?_⟩
    rw [split_S (a := l) (b := [32]) (by decide) (by decide)]
    have ew : ((TL.spl [32] 0 [] l).map S).map V.str = wordsV (cutW l) := List.map_map ..
    rw [ew]
    have st2 := st1.new2 (xs := wordsV (cutW l)) nwp
    have lenw : (wordsV (cutW l)).length = (cutW l).length := List.length_map ..
    have cl := cutW_len l
    have lw := tok.words.1
    refine ⟨_, rfl, _, rfl, wp, _, rfl, .inl (SqL.of st2.lst2), b, (cutW l).length, ?_, _, _, _, st2, by omega, by omega, fun H2 kv st3 _ k0 k1 => ?_⟩
    · rw [lenw]
      rfl
    obtain ⟨kk, rfl⟩ := Int.eq_ofNat_of_zero_le k0
    have kk1 : kk < (cutW l).length := by omega
    obtain ⟨w0, hw0⟩ : ∃ w0, (cutW l)[kk]? = some w0 := ⟨_, List.getElem?_eq_getElem kk1⟩
    have hwv : (wordsV (cutW l))[kk]? = some (V.str (S w0)) := by rw [List.getElem?_map, hw0]; rfl
    refine ⟨(by show 16 ≤ sizeLine; decide), fun o1 no1 => ?_⟩
    have st4 := st3.new2 (xs := (oddS.take 16).map V.str) no1
    refine ⟨_, rfl, (by show 4 ≤ sizeLine; decide), fun o2 no2 => ?_⟩
    have st5 := st4.new2 (xs := (oddS.drop 16).map V.str) no2
    refine ⟨o1, o2, _, _, rfl, rfl, st5.lst3, st5.lst2, (by show 16 + 4 ≤ sizeLine; decide), fun od nod => ?_⟩
    have st6 := (st5.del2.del2).new2 (xs := oddS.map V.str) nod
    refine ⟨_, rfl, _, _, rfl, rfl, _, rfl, ?_⟩
    refine ite2 (fun c => ?_) (fun c => ?_)
    · have d3 : deed < 3 := of_decide_eq_true c
      refine ⟨(by show 0 ≤ sizeLine; decide), fun e0 ne0 => ?_⟩
      have st7 := st6.new2 (xs := []) ne0
      have hw7 := (st7.order [0, 3, 1, 2] rfl : St Ts H F0 (boxT b :: lstT wp (wordsV (cutW l)) :: _) _).lst2
      refine ⟨_, rfl, _, rfl, wp, _, _, _, rfl, rfl, SqL.of hw7, at_of (j := kk) rfl hwv, _, rfl, _, rfl, wp, _, _, _, rfl, rfl, SqL.of hw7, at_of (j := kk) rfl hwv, (by show 2 ≤ sizeLine; decide), fun e1 ne1 => ?_⟩
      have st8 := st7.new2 (xs := wordsV [w0, w0]) ne1
      refine ⟨_, rfl, _, rfl, b, 20, rfl, _, _, _, st8, by decide, by decide, fun H9 x st9 _ x0 x1 => ?_⟩
      obtain ⟨o, ho, oa⟩ := pickS (zs := oddS) x0 x1
      have st9o := (st9.order [0, 3, 1, 2, 4] rfl : St Ts H F0 (boxT b :: lstT od (oddS.map V.str) :: _) _).lst2
      refine ⟨od, _, x, _, rfl, rfl, SqL.of st9o, oa, (by show 1 ≤ sizeLine; decide), fun e2 ne2 => ?_⟩
      have eo : [V.str o] = wordsV [nmW o] := by
        show [V.str o] = [V.str (S (nmW o))]
        rw [S_nmW]
      rw [eo]
      have st10 := st9.new2 (xs := wordsV [nmW o]) ne2
      refine ⟨(by show 3 ≤ sizeLine; decide), fun sm nsm => ?_⟩
      have st11 := st10.new2 (xs := [V.ref e0, .ref e1, .ref e2]) nsm
      obtain ⟨mid, ed, hm, hed, hat⟩ : ∃ (mid : List (List Nat)) (ed : Addr), (mid = [] ∨ mid = [w0, w0] ∨ ∃ o, WdOk o ∧ mid = [o]) ∧ (L2.upd (L2.upd H9 e2 (.lst (wordsV [nmW o]))) sm (.lst [V.ref e0, .ref e1, .ref e2])) ed = some (.lst (wordsV mid)) ∧ atI [V.ref e0, .ref e1, .ref e2] deed = some (.ref ed) := by
        have c3 : deed = 0 ∨ deed = 1 ∨ deed = 2 := by omega
        rcases c3 with rfl | rfl | rfl
        · exact ⟨[], e0, .inl rfl, (st11.order [0, 4, 1, 2, 3, 5, 6] rfl : St Ts H F0 (boxT b :: lstT e0 [] :: _) _).lst2, at_of (j := 0) rfl rfl⟩
        · exact ⟨[w0, w0], e1, .inr (.inl rfl), (st11.order [0, 3, 1, 2, 4, 5, 6] rfl : St Ts H F0 (boxT b :: lstT e1 (wordsV [w0, w0]) :: _) _).lst2, at_of (j := 1) rfl rfl⟩
        · exact ⟨[nmW o], e2, .inr (.inr ⟨_, odd_ok o ho, rfl⟩), (st11.order [0, 2, 1, 3, 4, 5, 6] rfl : St Ts H F0 (boxT b :: lstT e2 (wordsV [nmW o]) :: _) _).lst2, at_of (j := 2) rfl rfl⟩
      have hw11 := (st11.order [0, 6, 1, 2, 3, 4, 5] rfl : St Ts H F0 (boxT b :: lstT wp (wordsV (cutW l)) :: _) _).lst2
      have hsm := st11.lst2
      have stb := st11.del2.del2.del2.del2.del2.del2
      generalize L2.upd (L2.upd H9 e2 (.lst (wordsV [nmW o]))) sm (.lst [V.ref e0, .ref e1, .ref e2]) = H11 at hed hw11 hsm stb ⊢
      obtain ⟨tx1, bound⟩ := spoil_words tx hw0 hm
      have few : ((cutW l).take kk ++ mid ++ (cutW l).drop (kk + 1)).length ≤ 20000 := by
        have := tok.1
        omega
      rw [List.length_append, List.length_append] at few
      refine ⟨⟨_, rfl⟩, _, rfl, _, rfl, _, rfl, wp, _, rfl, SqL.of hw11, fun q1 nq1 => ?_⟩
      rw [cut_to]
      have s1 := Same.upd (o := .lst ((wordsV (cutW l)).take kk)) nq1
      have etk : (wordsV (cutW l)).take kk = wordsV ((cutW l).take kk) := List.map_take.symm
      refine ⟨_, rfl, _, rfl, sm, _, deed, .ref ed, rfl, rfl, SqL.of (s1 _ _ hsm), hat, q1, ed, _, _, rfl, rfl, upd_same, s1 _ _ hed, ?_, fun q2 nq2 => ?_⟩
      · rw [etk, sizeLine_eq, List.length_map, List.length_map]
        omega
      have s2 := s1.upd' (o := .lst ((wordsV (cutW l)).take kk ++ wordsV mid)) nq2
      refine ⟨_, rfl, _, rfl, _, _, rfl, rfl, _, rfl, wp, _, rfl, SqL.of (s2 _ _ hw11), fun q3 nq3 => ?_⟩
      rw [show (some ((kk : Int) + 1)) = some ((kk + 1 : Nat) : Int) from rfl, cut_from]
      have s3 := s2.upd' (o := .lst ((wordsV (cutW l)).drop (kk + 1))) nq3
      have edr : (wordsV (cutW l)).drop (kk + 1) = wordsV ((cutW l).drop (kk + 1)) := List.map_drop.symm
      refine ⟨q2, q3, _, _, rfl, rfl, Same.upd nq3 _ _ upd_same, upd_same, ?_, fun q4 nq4 => ?_⟩
      · rw [etk, edr, sizeLine_eq, List.length_append, List.length_map, List.length_map, List.length_map]
        omega
      have s4 := s3.upd' (o := .lst ((wordsV (cutW l)).take kk ++ wordsV mid ++ (wordsV (cutW l)).drop (kk + 1))) nq4
      have eall : (wordsV (cutW l)).take kk ++ wordsV mid ++ (wordsV (cutW l)).drop (kk + 1) = ((((cutW l).take kk ++ mid ++ (cutW l).drop (kk + 1)).map S).map V.str) := by
        rw [etk, edr, ← wordsV_app, ← wordsV_app]
        exact (List.map_map ..).symm
      refine ⟨S [32], q4, ((cutW l).take kk ++ mid ++ (cutW l).drop (kk + 1)).map S, rfl, rfl, .inl (SqL.of (by rw [← eall]; exact upd_same)), ?_, ?_⟩
      · rw [lens, List.length_map]
        have := tok.1
        show _ + _ * 1 ≤ _
        omega
      · rw [join_S]
        obtain ⟨st12, sm12⟩ := back (stb.same s4)
        exact k _ _ st12 sm12 tx1
    · have d3 : 3 ≤ deed := by
        have : ¬ deed < 3 := fun z => c (decide_eq_true z)
        omega
      have fit : (S l).length ≤ sizeLine := by
        have := tok.1
        rw [S_len, sizeLine_eq]
        omega
      refine ⟨_, rfl, _, rfl, S l, rfl, fit, _, _, rfl, rfl, b, l.length + 1, ?_, _, _, _, st6, by omega, ?_, fun H7 pl st7 _ p0 p1 => ?_⟩
      · rw [S_len]
        rfl
      · have := tok.1
        omega
      obtain ⟨pp, rfl⟩ := Int.eq_ofNat_of_zero_le p0
      have fits : (signS : Str).length ≤ sizeLine := by rw [sign_len.1, sizeLine_eq]; decide
      refine ⟨_, rfl, _, rfl, _, rfl, signS, rfl, fits, b, 92, ?_, _, _, _, st7, by decide, by decide, fun H8 x1 st8 _ x10 x11 => ?_⟩
      · rw [sign_len.1]
        rfl
      obtain ⟨n1, rfl⟩ := Int.eq_ofNat_of_zero_le x10
      have hn1 : n1 < signS.cps.toList.length := by rw [sign_len.2]; omega
      refine ⟨signS, n1, signS.cps.toList[n1], rfl, rfl, fits, atI_nat (List.getElem?_eq_getElem hn1), ?_⟩
      refine ⟨_, rfl, _, rfl, b, 15, rfl, _, _, _, st8, by decide, by decide, fun H9 x2 st9 _ x20 x21 => ?_⟩
      obtain ⟨n2, rfl⟩ := Int.eq_ofNat_of_zero_le x20
      have hn2 : n2 < signS.cps.toList.length := by rw [sign_len.2]; omega
      refine ⟨signS, n2, signS.cps.toList[n2], rfl, rfl, fits, atI_nat (List.getElem?_eq_getElem hn2), (by show 3 ≤ sizeLine; decide), fun q nq => ?_⟩
      have a1 := sign_ok _ (List.getElem_mem hn1)
      have a2 := sign_ok _ (List.getElem_mem hn2)
      generalize signS.cps.toList[n1] = c1 at a1 nq ⊢
      generalize signS.cps.toList[n2] = c2 at a2 nq ⊢
      have sq := Same.upd (o := .lst [V.str (S [c1]), .str (S []), .str (S [c2])]) nq
      obtain ⟨s, hs, hat⟩ : ∃ s : List Nat, (s.length ≤ 1 ∧ ∀ c ∈ s, c < 128) ∧ atI [V.str (S [c1]), .str (S []), .str (S [c2])] (deed - 3) = some (.str (S s)) := by
        have c3 : deed = 3 ∨ deed = 4 ∨ deed = 5 := by omega
        rcases c3 with rfl | rfl | rfl
        · exact ⟨[c1], ⟨Nat.le_refl _, fun c hc => by rw [List.mem_singleton.mp hc]; exact a1⟩, at_of (j := 0) rfl rfl⟩
        · exact ⟨[], ⟨Nat.zero_le _, (fun c hc => nomatch hc)⟩, at_of (j := 1) rfl rfl⟩
        · exact ⟨[c2], ⟨Nat.le_refl _, fun c hc => by rw [List.mem_singleton.mp hc]; exact a2⟩, at_of (j := 2) rfl rfl⟩
      refine ⟨_, rfl, _, _, rfl, rfl, q, _, _, _, rfl, rfl, SqL.of upd_same, hat, ?_⟩
      refine ⟨_, rfl, _, rfl, _, rfl, S l, rfl, fit, ?_⟩
      rw [cutS_to]
      have lt := List.length_take_le' pp l
      have l9 := tok.1
      refine ⟨_, rfl, S (l.take pp), S s, rfl, rfl, by rw [S_len, S_len, sizeLine_eq]; omega, ?_⟩
      rw [S_cat]
      refine ⟨_, rfl, _, rfl, _, rfl, _, _, rfl, rfl, .inr ⟨_, rfl, _, _, rfl, rfl, _, rfl, S l, rfl, fit, ?_⟩⟩
      obtain ⟨st10, sm10⟩ := back (st9.del2.del2.same sq)
      have fin : ∀ e : Nat, ∃ i j, V.str (S (l.take pp ++ s)) = V.str i ∧ V.str (cutS (S l) (some ((pp : Int) + (e : Int))) none) = V.str j ∧ i.length + j.length ≤ sizeLine ∧ Q (V.str (i ++ j)) (L2.upd H9 q (.lst [V.str (S [c1]), .str (S []), .str (S [c2])])) := fun e => by
        rw [show ((pp : Int) + (e : Int)) = ((pp + e : Nat) : Int) from rfl, cutS_from]
        refine ⟨_, _, rfl, rfl, ?_, ?_⟩
        · rw [S_len, S_len, List.length_append, List.length_drop, List.length_take, sizeLine_eq]
          omega
        · rw [S_cat]
          exact k _ _ st10 sm10 (spoil_sign tx hs)
      by_cases cd : (3 : Int) < deed
      · rw [decide_eq_true cd]
        exact fin 1
      · rw [decide_eq_false cd]
        exact fin 0
end
end K3

set_option Elab.async false
set_option linter.all false
set_option maxRecDepth 100000
set_option maxHeartbeats 4000000
/-! KDu: what is due of a text -/
namespace K3
open PySem PySem.Spec PyProof.Rows L2 SX
def DueIs (K : PySem.W.Frag) (H : Hp) (v : V) : TxD → Prop
  | .txt p => ∃ t, v = .ref t ∧ H t = some (.tup [.str "BadText", .int (p : Nat)])
  | .bad => ∃ t, v = .ref t ∧ H t = some (.tup [.str "BadCondition", .int 0])
  | .cond d => Is K H v d
theorem DueIs.keep {K : PySem.W.Frag} {H H' : Hp} {v : V} {x : TxD} (h : DueIs K H v x) (s : SmT H H') : DueIs K H' v x := by
  cases x with
  | txt p =>
    obtain ⟨t, e, ht⟩ := h
    exact ⟨t, e, s _ _ ht (.inl ⟨_, rfl⟩)⟩
  | bad =>
    obtain ⟨t, e, ht⟩ := h
    exact ⟨t, e, s _ _ ht (.inl ⟨_, rfl⟩)⟩
  | cond d => exact Is.keep h s
section
variable {P : Program} {w : World} {K : PySem.W.Frag} {mg : Str → Option Value} {base : Heap}
abbrev s__law_due : Stmt := top 62
abbrev N__law_due : List Str := ["_law_kinds_here", "_law_text_here", "_law_words", "_law_place", "_law_condition_here"]
abbrev P__law_due : List Str := ["_law_kinds_here", "_law_text_here"]
theorem sc__law_due : FnScope N__law_due P__law_due (defScope s__law_due) := ⟨rfl, rfl, rfl, by decide +kernel, rfl, by decide +kernel, by decide +kernel⟩
def spDueT (K : PySem.W.Frag) : Sp := fun vs H Q _ => ∃ (kp : Addr) (ks : List Bool) (l : List Nat), vs = [.ref kp, .str (S l)] ∧ SqT K H kp (ks.map kdV) ∧ ks.length ≤ 4 ∧ TxOk l ∧ l.count 32 ≤ 62 ∧
  ∀ H' v, Same H H' → DueIs K H' v (txD ks l) → Q v H'
theorem ok_dueT (T : Txt mg) (D0 : Df K mg "_law_due" s__law_due P__law_due) (G__law_read : Fn P w K mg base CX0 2 "_law_read" P__law_read (spRead2 K)) (G__law_made : Fn P w K mg base CX0 65 "_law_made" P__law_made (spMade K 63))
    (G__law_count : Fn P w K mg base CX0 9 "_law_count" P__law_count (spCnt K 8)) : Fn P w K mg base CX0 66 "_law_due" P__law_due (spDueT K) := by
  refine D0.ok sc__law_due (fun vs H Q E h => ?_) (fun f cdv A outer s H vs Q E hr h => ?_)
  · obtain ⟨kp, ks, l, rfl, _⟩ := h
    rfl
  · obtain ⟨kp, ks, l, rfl, hkp, k4, tx, few, k⟩ := h
    have nd := sc__law_due.nd
    refine ⟨_, (Evl.pss_cut (ps_set (i := 2) nd rfl (by first | exact Or.inl rfl | exact Or.inr rfl) (pe_ifExp (pt_cmpR op_ne (pv 1) pe_str (nomark _)) (pe_split (pv 1) pe_str) (pe_lst pa_nil)))
  (pss_cons (ps_set (i := 3) nd rfl (by first | exact Or.inl rfl | exact Or.inr rfl) (pe_c G__law_read (hr.mono (by decide)) pass0 (pa_cons (pv 2) (pa_cons pe_str pa_nil))))
  (pss_cons (ps_if (pt_cmpR op_notN (pv 3) pe_non (nomark _))
  (pss_one (ps_ret (pe_tup (pa_cons pe_str (pa_cons (pv 3) pa_nil)))))
  pss_nil)
  (pss_cons (ps_set (i := 4) nd rfl (by first | exact Or.inl rfl | exact Or.inr rfl) (pe_c G__law_made (hr.mono (by decide)) pass0 (pa_cons (pe_callTy call_list_of (by rfl) T.b_list (by decide +kernel) (pa_cons (pv 2) pa_nil)) pa_nil)))
  (pss_one (ps_ret (pe_ifExp (pt_cmpR op_le (pe_c G__law_count (hr.mono (by decide)) pass0 (pa_cons (pv 0) (pa_cons (pv 4) (pa_cons pe_int pa_nil)))) pe_int (nomark _)) (pv 4) (pe_tup (pa_cons pe_str (pa_cons pe_int pa_nil)))))))))), ?_⟩
    obtain ⟨w10, ww⟩ := tx.words
    refine ⟨fun σ H' => ∃ (wp : Addr) (W : List (List Nat)) (x3 x4 : Option V), σ = [some (.ref kp), some (.str (S l)), some (.ref wp), x3, x4] ∧ Same H H' ∧ H' wp = some (.lst (wordsV W)) ∧ (W = cutW l ∨ (W = [] ∧ l = [])), ?_, ?_⟩
    · refine ⟨_, rfl, rfl, _, rfl, ?_⟩
      refine ite2 (fun c => ?_) (fun c => ?_)
      · refine ⟨_, rfl, ⟨_, rfl⟩, S l, S [32], rfl, rfl, rfl, ?_, fun wp nwp => ?_⟩
        · have := tx.1
          rw [S_len, sizeLine_eq]
          omega
        rw [split_S (a := l) (b := [32]) (by decide) (by decide)]
        have ew : ((TL.spl [32] 0 [] l).map S).map V.str = wordsV (cutW l) := List.map_map ..
        rw [ew]
        exact ⟨wp, cutW l, _, _, rfl, Same.upd nwp, upd_same, .inl rfl⟩
      · refine ⟨(by show 0 ≤ sizeLine; decide), fun wp nwp => ⟨wp, [], _, _, rfl, Same.upd nwp, upd_same, .inr ⟨rfl, ?_⟩⟩⟩
        have c : ¬ (!decide (V.str (S l) = V.str (S []))) = true := c
        have := Decidable.byContradiction (p := V.str (S l) = V.str (S [])) fun z => c (by rw [decide_eq_false z]; rfl)
        exact S_inj (V.str.inj this)
    · rintro σ H1 ⟨wp, W, x3, x4, rfl, s1, hwp, hW⟩
      have wlen : W.length ≤ 10000 ∧ ∀ x ∈ W, x.length ≤ 10000 := by
        rcases hW with rfl | ⟨rfl, _⟩
        · exact ⟨w10, fun x hx => (ww x hx).1⟩
        · exact ⟨Nat.zero_le _, fun x hx => nomatch hx⟩
      have er : rdW [true] W 0 = rdW [true] (cutW l) 0 := by
        rcases hW with rfl | ⟨rfl, rfl⟩
        · rfl
        · decide +kernel
      refine ⟨_, rfl, wp, W, rfl, SqL.of hwp, wlen.1, wlen.2, fun H2 s2 => ?_⟩
      rw [er]
      unfold txD at k
      cases e : rdW [true] (cutW l) 0 with
      | some p =>
        rw [e] at k
        refine ⟨_, rfl, rfl, _, rfl, ite2 (fun _ => ?_) (fun z => absurd rfl z)⟩
        refine ⟨_, rfl, (by show 2 ≤ sizeLine; decide), fun t nt => k _ _ ((s1.trans s2).upd' nt) ⟨t, rfl, upd_same⟩⟩
      | none =>
        rw [e] at k er
        dsimp only at k
        have hW : W = cutW l := by
          rcases hW with h | ⟨rfl, _⟩
          · exact h
          · cases er
        subst hW
        obtain ⟨ds, fo⟩ := rd_forest (m := (cutW l).length) (Nat.le_refl _) er
        obtain ⟨d, rfl⟩ : ∃ d, ds = [d] := List.length_eq_one_iff.mp fo.len
        rw [fo.fold] at k
        dsimp only at k
        have fo63 : Fo [true] (cutW l) [d] 63 := fo.mono (by rw [cutW_len]; omega)
        have s12 := s1.trans s2
        refine ⟨_, rfl, rfl, _, rfl, ite2 (fun z => absurd z (by decide)) (fun _ => ?_)⟩
        refine ⟨_, rfl, wp, _, rfl, .inl (SqL.of (s2 _ _ hwp)), fun w2 nw2 => ?_⟩
        refine ⟨w2, cutW l, [], d, rfl, by rw [List.append_nil]; exact upd_same, fo63, by rw [List.append_nil]; exact wlen.2, fun H4 v sx hw4 iv => ?_⟩
        have s4 : Same H H4 := fun b u e => by
          have e2 := s12 _ _ e
          have ne : b ≠ w2 := fun z => by
            rw [z, nw2] at e2
            cases e2
          exact sx b u ne ((upd_ne ne).trans e2)
        refine ⟨_, rfl, _, rfl, kp, v, ks, d, cutW l, _, rfl, s4.seqT hkp, k4, iv, fo63, fun H5 c s5 cok => ⟨_, _, rfl, rfl, _, rfl, ?_⟩⟩
        rw [cnt_good cok]
        have s45 := s4.trans s5
        refine ite2 (fun g => ?_) (fun g => ?_)
        · rw [g, if_pos rfl] at k
          exact ⟨_, rfl, k _ v s45 (iv.same s5)⟩
        · rw [if_neg g] at k
          exact ⟨(by show 2 ≤ sizeLine; decide), fun t nt => k _ _ (s45.upd' nt) ⟨t, rfl, upd_same⟩⟩
end
end K3

set_option Elab.async false
set_option linter.all false
set_option maxRecDepth 100000
set_option maxHeartbeats 4000000
/-! K20L: the law -/
namespace K3
open PySem PySem.Spec PyProof.Rows L2 SX
abbrev s_law : Stmt := top 63
abbrev N_law : List Str := ["_law_script", "_law_box", "_law_kinds_here", "_law_rows_here", "_law_many", "_law_wide", "_law_odd", "_law_turn", "_law_text_here", "_law_deed", "_law_due_here"]
abbrev P_law : List Str := ["_law_script"]
theorem sc_law : FnScope N_law P_law (defScope s_law) := ⟨rfl, rfl, rfl, by decide +kernel, rfl, by decide +kernel, by decide +kernel⟩
/-- the table that the law's lambdas go through -/
def TL (Pt : Addr) : List (Addr × Str) := [(Pt, (envOfC "law" (defScope s_law) 0 0 .none).qual ++ "<lambda>")]
theorem holds_one {A : Thing} {H : Hp} {F : Foot} (h : A.R H F) : Holds [A] H F := ⟨F, fun _ => False, h, fun q f => f, fun q _ f => f, fun q => ⟨.inl, fun z => z.elim id False.elim⟩⟩
def oks (z : Str) : Bool := decide ((nmW z).length ≤ 980) && (decide ((nmW z).count 32 ≤ 59) && (nmW z).all fun c => decide (c < 128))
theorem oks_ok {z : Str} (h : oks z = true) : TxM 0 (nmW z) := by
  unfold oks at h
  rw [Bool.and_eq_true, Bool.and_eq_true, decide_eq_true_eq, decide_eq_true_eq, List.all_eq_true] at h
  exact .of h.1 h.2.1 fun c hc => of_decide_eq_true (h.2.2 c hc)
theorem many_dok {ks : List Bool} : ∀ {n : Nat} {d : Dat} {m : Nat} {us : List (List Nat)} {j : Nat}, Fo [true] us [d] j → manyD ks n d = some m → DOk (n + 1) d
  | 0, d, m, us, j, _, h => by cases h
  | n + 1, d, m, us, j, fo, h => by
    cases fo with
    | @node z qs _ us1 _ es ds j hk fa fr =>
    cases fr
    obtain ⟨ps, hp, lps, kc⟩ := kinds_case hk
    rw [many_eq hp (fa.len.trans lps.symm)] at h
    have q3 := (kinds_val hk).2.1
    refine .tup (by rw [List.length_cons, fa.len]; omega) fun e he => ?_
    rcases List.mem_cons.mp he with rfl | he
    · exact .str _
    rcases kc with ⟨_, yc, kc3⟩ | ⟨_, nc, kc3, _⟩
    · rw [if_pos yc] at h
      obtain ⟨ut, ft⟩ := fo_each fa kc3 e he
      cases hm : manyD ks n e with
      | none =>
        rw [folds_gap he hm] at h
        cases h
      | some m2 => exact many_dok ft hm
    · obtain ⟨xs, rfl, _, _⟩ := fo_vals fa kc3
      obtain ⟨x, _, rfl⟩ := List.mem_map.mp he
      cases x with
      | num i => exact .int i
      | wrd l => exact .str _
theorem tx_dok {ks : List Bool} {l : List Nat} {d : Dat} (h : txD ks l = .cond d) : DOk 9 d := by
  unfold txD at h
  cases e : rdW [true] (cutW l) 0 with
  | some p =>
    rw [e] at h
    cases h
  | none =>
    rw [e] at h
    obtain ⟨ds, fo⟩ := rd_forest (m := (cutW l).length) (Nat.le_refl _) e
    obtain ⟨d', rfl⟩ : ∃ d, ds = [d] := List.length_eq_one_iff.mp fo.len
    dsimp only at h
    rw [fo.fold] at h
    dsimp only at h
    split at h
    · rename_i g
      cases h
      unfold goodD at g
      cases hm : manyD ks 8 d with
      | none =>
        rw [hm] at g
        cases g
      | some m => exact many_dok fo hm
    · cases h
def wideT : Str := S (List.replicate (Int.toNat 7) (Str.ofString "and all ").cps.toList).flatten ++ "all"
def oddA (m : Str) : List Str := ["", " ", "all ", " all", "all all", "is 0", "and all", "not", m, wideT, "or " ++ wideT ++ " all", "is 0 5"]
def oddB : List Str := ["is 0 =", "begins 0 =a", "within 0 1 2", "less 3 -9999"]
theorem odds_ok {m : Str} (h : oks m = true) : ∀ z ∈ oddA m ++ oddB, oks z = true := by
  have e : oddA m ++ oddB = (["", " ", "all ", " all", "all all", "is 0", "and all", "not"] : List Str) ++ m :: (wideT :: ("or " ++ wideT ++ " all") :: ["is 0 5", "is 0 =", "begins 0 =a", "within 0 1 2", "less 3 -9999"]) := rfl
  intro z hz
  rw [e] at hz
  rcases List.mem_append.mp hz with hz | hz
  · exact List.all_eq_true.mp (by decide +kernel : (["", " ", "all ", " all", "all all", "is 0", "and all", "not"] : List Str).all oks = true) z hz
  · rcases List.mem_cons.mp hz with rfl | hz
    · exact h
    · exact List.all_eq_true.mp (by decide +kernel : (wideT :: ("or " ++ wideT ++ " all") :: ["is 0 5", "is 0 =", "begins 0 =a", "within 0 1 2", "less 3 -9999"] : List Str).all oks = true) z hz
/-- what is done with what is told of a text -/
def toldT (K : PySem.W.Frag) (x : TxD) (H' : Hp) (Q : VK) : Prop := match x with
  | .txt p => ∀ t H'', Same H' H'' → H'' t = some (.tup [.str (cnm 12), .int (p : Nat)]) → Q (.ref t) H''
  | .bad => ∀ t H'', Same H' H'' → H'' t = some (.tup [.str (cnm 6), .int 0]) → Q (.ref t) H''
  | .cond d => ∀ v H'', Same H' H'' → Is K H'' v d → Q v H''
theorem toldT_told {K : PySem.W.Frag} {cs : Nat → Addr} {x : TxD} {H' : Hp} {Q : VK} {E : XK} (h : toldT K x H' Q) (hE : ∀ cls d H'', Told cs cls d H'' Q → E cls d H'') :
    match (generalizing := false) x with
    | .txt p => ∀ d H'', Same H' H'' → H' d = none → H'' d = some (.xd [("place", .int (p : Nat))]) → E (.ref (cs 12)) (some d) H''
    | .bad => ∀ H'', Same H' H'' → E (.ref (cs 6)) none H''
    | .cond d => ∀ H'' v, Same H' H'' → Is K H'' v d → Q v H'' := by
  cases x with
  | txt p => exact fun d H'' s _ hd => hE _ _ _ ⟨12, p, by decide, rfl, .inr ⟨.inr (.inr rfl), d, _, rfl, hd, rfl⟩, fun H3 t s3 _ ht => h t H3 (s.trans s3) ht⟩
  | bad => exact fun H'' s => hE _ _ _ ⟨6, 0, by decide, rfl, .inl ⟨by decide, by decide, by decide, rfl, rfl⟩, fun H3 t s3 _ ht => h t H3 (s.trans s3) ht⟩
  | cond d => exact fun H'' v s iv => h v H'' s iv
theorem toldT_of {K : PySem.W.Frag} {ks : List Bool} {l : List Nat} {H' : Hp} {Q : VK} {due : V} (hd : DueIs K H' due (txD ks l)) (h : ∀ v H'', Same H' H'' → (∃ m, m < 12 ∧ Alk K H'' m v due) → Q v H'') : toldT K (txD ks l) H' Q := by
  have two : ∀ {H'' : Hp} {t q : Addr} {z : Str} {i : Int}, H'' t = some (.tup [.str z, .int i]) → H'' q = some (.tup [.str z, .int i]) → Alk K H'' 1 (.ref t) (.ref q) := fun h1 h2 =>
    .tup (SqT.of h1) (SqT.of h2) (by show 2 ≤ 10000; decide) rfl fun j x y hx hy => by
      match j, hx, hy with
      | 0, hx, hy =>
        cases hx
        cases hy
        exact .str _
      | 1, hx, hy =>
        cases hx
        cases hy
        exact .int _
      | _ + 2, hx, _ => cases hx
  unfold toldT
  cases e : txD ks l with
  | txt p =>
    rw [e] at hd
    obtain ⟨q, rfl, hq⟩ := hd
    exact fun t H'' s ht => h _ _ s ⟨1, by decide, two ht (s _ _ hq)⟩
  | bad =>
    rw [e] at hd
    obtain ⟨q, rfl, hq⟩ := hd
    exact fun t H'' s ht => h _ _ s ⟨1, by decide, two ht (s _ _ hq)⟩
  | cond d =>
    rw [e] at hd
    exact fun v H'' s iv => h _ _ s ⟨9, by decide, alk_is (tx_dok e) iv (Is.same hd s)⟩
section
variable {P : Program} {w : World} {K : PySem.W.Frag} {mg : Str → Option Value} {base : Heap}
def spLawT (K : PySem.W.Frag) (Pt : Addr) : Sp := fun vs H Q _ => ∃ (a : Addr) (ns : List Int), vs = [.ref a] ∧ SqL K H a (ns.map V.int) ∧ ns.length ≤ 63 ∧ LamX.Tabs (TL Pt) H ∧ ∀ H', Q (.bl true) H'
theorem ok_lawT {cs : Nat → Addr} {Pt c : Addr} (T : Txt mg) {f : Addr} {fd : FuncData} (D0 : FunD K "law" "law" (defArgs s_law) (defBody s_law) (defScope s_law) [] [] f fd) (hcode : fd.code = .ref c) (TB : LamX.TabB base mg c Pt)
    (G_told : ∀ b, Fn P w K mg b CX0 17 "_law_told" P__law_told (spTold P w K mg 15 cs b)) (G__law_alike : Fn P w K mg base CX0 13 "_law_alike" P__law_alike (spAlike K 12))
    (G__law_begun : Fn P w K mg base CX0 1 "_law_begun" P__law_begun (spBegun K)) (G__law_take : Fn P w K mg base CX0 1 "_law_take" P__law_take (spDraw (TL Pt)))
    (G__law_kinds : Fn P w K mg base CX0 2 "_law_kinds" P__law_kinds (spKinds K (TL Pt))) (G__law_rows : Fn P w K mg base CX0 4 "_law_rows" P__law_rows (spRows K (TL Pt)))
    (G__law_condition : Fn P w K mg base CX0 10 "_law_condition" P__law_condition (spLcd K (TL Pt) 3)) (G__law_text : Fn P w K mg base CX0 8 "_law_text" P__law_text (spText K 7))
    (G__law_spoilt : Fn P w K mg base CX0 2 "_law_spoilt" P__law_spoilt (spSpoil (TL Pt))) (G__law_due : Fn P w K mg base CX0 66 "_law_due" P__law_due (spDueT K))
    (X_read : ∀ b, Fn P w K mg b (L2.CX P w) 14 "read" P_read (spReadP K (cs 6) (cs 12))) : FnOk P w K mg base CX0 67 f fd P_law (spLawT K Pt) := by
  refine okT D0 hcode sc_law (fun vs H Q E h => ?_) (fun A outer s H vs Q E hr h => ?_)
  · obtain ⟨a, ns, rfl, _⟩ := h
    rfl
  · obtain ⟨sc, ns0, rfl, hS, hl, hT, k⟩ := h
    have nd := sc_law.nd
    refine ⟨_, (pss_cons (ps_set (i := 1) nd rfl (by first | exact Or.inl rfl | exact Or.inr rfl) (pe_c G__law_begun (hr.mono (by decide)) pass0 (pa_cons (pv 0) pa_nil)))
  (pss_cons (ps_set (i := 2) nd rfl (by first | exact Or.inl rfl | exact Or.inr rfl) (pe_c G__law_kinds (hr.mono (by decide)) pass0 (pa_cons (pv 1) pa_nil)))
  (pss_cons (ps_set (i := 3) nd rfl (by first | exact Or.inl rfl | exact Or.inr rfl) (pe_c G__law_rows (hr.mono (by decide)) pass0 (pa_cons (pv 1) (pa_cons (pv 2) (pa_cons pe_int pa_nil)))))
  (pss_cons (ps_set (i := 4) nd rfl (by first | exact Or.inl rfl | exact Or.inr rfl) (pe_op op_add_str (pe_op op_smul pe_str (pe_ix ix_list (pe_lst (pa_cons pe_int (pa_cons pe_int pa_nil))) (pe_c G__law_take (hr.mono (by decide)) pass0 (pa_cons (pv 1) (pa_cons pe_int pa_nil))) (fun _ _ => rfl))) pe_str))
  (pss_cons (ps_set (i := 5) nd rfl (by first | exact Or.inl rfl | exact Or.inr rfl) (pe_op op_add_str (pe_op op_smul pe_str pe_int) pe_str))
  (pss_cons (ps_set (i := 6) nd rfl (by first | exact Or.inl rfl | exact Or.inr rfl) (pe_lst (pa_cons pe_str (pa_cons pe_str (pa_cons pe_str (pa_cons pe_str (pa_cons pe_str (pa_cons pe_str (pa_cons pe_str (pa_cons pe_str (pa_cons (pv 4) (pa_cons (pv 5) (pa_cons (pe_op op_add_str (pe_op op_add_str pe_str (pv 5)) pe_str) (pa_cons pe_str pa_nil))))))))))))))
  (pss_cons (ps_set (i := 6) nd rfl (by first | exact Or.inl rfl | exact Or.inr rfl) (pe_op op_cat (pv 6) (pe_lst (pa_cons pe_str (pa_cons pe_str (pa_cons pe_str (pa_cons pe_str pa_nil)))))))
  (pss_cons (ps_for PassesOwn.never rfl (pi_range1 (by rfl) T.b_range (pa_cons pe_int pa_nil)) (pg_name (i := 7) nd rfl (by first | exact Or.inl rfl | exact Or.inr rfl))
  (pss_cons (ps_set (i := 8) nd rfl (by first | exact Or.inl rfl | exact Or.inr rfl) (pe_join pe_str (pe_c G__law_text (hr.mono (by decide)) pass0 (pa_cons (pe_c G__law_condition (hr.mono (by decide)) pass0 (pa_cons (pv 1) (pa_cons (pv 2) (pa_cons (pv 3) (pa_cons pe_int pa_nil))))) pa_nil))))
  (Evl.pss_cut (ps_if (pt_cmpR op_eq (pe_c G__law_take (hr.mono (by decide)) pass0 (pa_cons (pv 1) (pa_cons pe_int pa_nil))) pe_int (nomark _))
  (pss_one (ps_set (i := 8) nd rfl (by first | exact Or.inl rfl | exact Or.inr rfl) (pe_ix ix_list (pv 6) (pe_c G__law_take (hr.mono (by decide)) pass0 (pa_cons (pv 1) (pa_cons pe_int pa_nil))) (fun _ _ => rfl))))
  pss_nil)
  (pss_cons (ps_for PassesOwn.never rfl (pi_range1 (by rfl) T.b_range (pa_cons (pe_c G__law_take (hr.mono (by decide)) pass0 (pa_cons (pv 1) (pa_cons pe_int pa_nil))) pa_nil)) (pg_name (i := 9) nd rfl (by first | exact Or.inl rfl | exact Or.inr rfl))
  (pss_one (ps_set (i := 8) nd rfl (by first | exact Or.inl rfl | exact Or.inr rfl) (pe_c G__law_spoilt (hr.mono (by decide)) pass0 (pa_cons (pv 1) (pa_cons (pv 8) pa_nil))))))
  (pss_cons (ps_set (i := 10) nd rfl (by first | exact Or.inl rfl | exact Or.inr rfl) (pe_c G__law_due (hr.mono (by decide)) pass0 (pa_cons (pv 2) (pa_cons (pv 8) pa_nil))))
  (pss_cons (ps_if (pt_not (pt_val (pe_c G__law_alike (hr.mono (by decide)) pass0 (pa_cons (pe_callL (fun b => G_told b) (hr.mono (by decide)) (fun _ => rfl) (pa_cons (pe_lam0 (c := c) (P := Pt) (T := TL Pt) TB rfl List.mem_cons_self (fun p hp _ => by rw [List.mem_singleton.mp hp]; rfl) (lamP_by (show lamPB N_law (defScope s_law) _ [] = true by decide +kernel)).free rfl) pa_nil)) (pa_cons (pv 10) pa_nil)))))
  (pss_one (ps_ret pe_bl))
  pss_nil)
  (pss_one (ps_if (pt_not (pt_val (pe_c G__law_alike (hr.mono (by decide)) pass0 (pa_cons (pe_callL (fun b => G_told b) (hr.mono (by decide)) (fun _ => rfl) (pa_cons (pe_lam1 (c := c) (P := Pt) (T := TL Pt) (i := 0) TB rfl List.mem_cons_self (fun p hp _ => by rw [List.mem_singleton.mp hp]; rfl) (lamP_by (show lamPB N_law (defScope s_law) _ ["_law_a"] = true by decide +kernel)).free rfl rfl pe_int) pa_nil)) (pa_cons (pv 10) pa_nil)))))
  (pss_one (ps_ret pe_bl))
  pss_nil))))))))
  (pss_one (ps_ret pe_bl)))))))))), ?_⟩
    refine ⟨_, rfl, sc, ns0, rfl, hS, hl, fun H1 b l s1 B1 => ?_⟩
    have st1 : St (TL Pt) H1 (fun q => q = b ∨ q = l) [boxT b] H1 := .start (holds_one ⟨l, B1, fun q => Iff.rfl⟩) (tabs_same hT s1)
    refine ⟨_, rfl, b, _, _, _, rfl, st1, fun H2 kp ks st2 sm2 hkp k1 k4 => ?_⟩
    obtain ⟨F2, hF2, _⟩ := st2.step (Cs := [boxT b]) (Ds := []) (.refl _)
    have mu2 := Holds.mut hF2
    have st2 : St (TL Pt) H2 F2 [boxT b] H2 := .start hF2 st2.tabs
    refine ⟨_, rfl, _, rfl, b, kp, 6, ks, _, _, _, rfl, st2, hkp, k4, by decide, by decide, fun H3 rp rows st3 sm3 okr r1 r6 => ?_⟩
    refine ⟨(by show 2 ≤ sizeLine; decide), fun q4 nq4 => ?_⟩
    have st4 := st3.new2 (xs := [7, 8].map V.int) nq4
    refine ⟨_, rfl, b, 2, rfl, _, _, _, st4, by decide, by decide, fun H5 x5 st5 sm5 x50 x51 => ?_⟩
    obtain ⟨y, hy, ya⟩ := pickZ (zs := [7, 8]) x50 x51
    have yc : y = 7 ∨ y = 8 := by simpa using hy
    refine ⟨q4, _, x5, _, rfl, rfl, SqL.of st5.lst2, ya, _, _, rfl, rfl, by omega, by omega, by decide, _, _, rfl, rfl, ?_, ?_⟩
    · rw [sizeLine_eq]
      rcases yc with rfl | rfl <;> decide +kernel
    have hmany : oks (S (List.replicate y.toNat (Str.ofString "not ").cps.toList).flatten ++ "all") = true := by rcases yc with rfl | rfl <;> decide +kernel
    have st5 := st5.del2
    generalize S (List.replicate y.toNat (Str.ofString "not ").cps.toList).flatten ++ "all" = many at hmany ⊢
    refine ⟨_, _, rfl, rfl, by decide, by decide, by decide, _, _, rfl, rfl, by decide +kernel, ?_⟩
    refine ⟨_, rfl, _, rfl, _, rfl, _, _, rfl, rfl, by decide +kernel, _, _, rfl, rfl, by decide +kernel, (by show 12 ≤ sizeLine; decide), fun o1 no1 => ?_⟩
    have st6 := st5.new2 (xs := (oddA many).map V.str) no1
    refine ⟨_, rfl, (by show 4 ≤ sizeLine; decide), fun o2 no2 => ?_⟩
    have st7 := st6.new2 (xs := oddB.map V.str) no2
    refine ⟨o1, o2, _, _, rfl, rfl, st7.lst3, st7.lst2, (by show 12 + 4 ≤ sizeLine; decide), fun od nod => ?_⟩
    have st8 := (st7.del2.del2).new2 (xs := (oddA many ++ oddB).map V.str) nod
    have hk : ∀ {As H'}, St (TL Pt) H2 F2 As H' → SqT K H' kp (ks.map kdV) := fun h => (h.smT mu2).seqT hkp
    refine ⟨_, rfl, by decide, by decide, for_it (walk_range (lo := 0)) (fun i σ H' => (∃ v7 v8 v9 v10, σ = [some (.ref sc), some (.ref b), some (.ref kp), some (.ref rp), some (.str many), some (.str wideT), some (.ref od), v7, v8, v9, v10]) ∧
      St (TL Pt) H2 F2 (boxT b :: lstT od ((oddA many ++ oddB).map V.str) :: [datT K rp (rows.map rowD)]) H') ⟨⟨none, none, none, none, rfl⟩, st8⟩ (fun _ _ _ _ _ => True.intro) ?_ ?_⟩
    · rintro i x σ H9' H9 hi ⟨⟨v7, v8, v9, v10, rfl⟩, st9⟩ ⟨rfl, rfl⟩
      have st9b : St (TL Pt) H2 F2 (boxT b :: datT K rp (rows.map rowD) :: [lstT od ((oddA many ++ oddB).map V.str)]) H9 := st9.order [0, 2, 1] rfl
      refine ⟨⟨_, rfl⟩, _, rfl, _, rfl, _, rfl, b, kp, rp, ks, rows, _, _, _, rfl, ⟨st9b, hk st9b, k1, k4, okr, by omega⟩, fun H10 v cd st10 _ iv okc big => ?_⟩
      have m15 : cd.many ≤ 15 ∧ cd.deep ≤ 7 := by
        rcases big with ⟨h1, h2⟩ | ⟨_, h1, h2⟩
        · exact ⟨by have e : (2 : Nat) ^ (3 + 1) = 16 := (by decide); omega, by omega⟩
        · exact ⟨h1, h2⟩
      obtain ⟨wok, wl⟩ := words_ok (okc.fit k4)
      refine ⟨v, cd, rfl, iv, okc.fit k4, m15.2, by omega, fun H11 p s11 np hp => ?_⟩
      have tx0 := glue_ok wok (by omega)
      have hsum := sum_le wok
      refine ⟨S [32], p, cd.words.map S, rfl, rfl, .inl (SqL.of (by rw [List.map_map]; exact hp)), ?_, ?_⟩
      · rw [lens, List.length_map]
        show _ + _ * 1 ≤ _
        omega
      rw [join_S]
      have st11 := (st10.same s11).order [0, 2, 1] rfl
      have st11 : St (TL Pt) H2 F2 (boxT b :: lstT od ((oddA many ++ oddB).map V.str) :: [datT K rp (rows.map rowD)]) H11 := st11
      change TxM 0 (TL.joinL [32] cd.words) at tx0
      generalize TL.joinL [32] cd.words = l0 at tx0 ⊢
      clear hp np wok hsum wl
      refine ⟨fun σ H' => ∃ (l1 : List Nat) (v7 v9 v10 : Option V), σ = [some (.ref sc), some (.ref b), some (.ref kp), some (.ref rp), some (.str many), some (.str wideT), some (.ref od), v7, some (.str (S l1)), v9, v10] ∧ TxM 0 l1 ∧
        St (TL Pt) H2 F2 (boxT b :: lstT od ((oddA many ++ oddB).map V.str) :: [datT K rp (rows.map rowD)]) H', ?_, ?_⟩
      · refine ⟨_, rfl, b, 4, rfl, _, _, _, st11, by decide, by decide, fun H12 x12 st12 _ _ _ => ?_⟩
        refine ⟨rfl, _, rfl, ite2 (fun _ => ?_) (fun _ => ⟨l0, _, _, _, rfl, tx0, st12⟩)⟩
        refine ⟨_, rfl, _, rfl, b, 16, rfl, _, _, _, st12, by decide, by decide, fun H13 x13 st13 _ x130 x131 => ?_⟩
        obtain ⟨z, hz, za⟩ := pickS (zs := oddA many ++ oddB) x130 x131
        have ztx := oks_ok (odds_ok hmany z hz)
        obtain ⟨lz, rfl⟩ : ∃ lz, z = S lz := ⟨nmW z, (S_nmW z).symm⟩
        exact ⟨od, _, x13, _, rfl, rfl, SqL.of st13.lst2, za, lz, _, _, _, rfl, ztx, st13⟩
      rintro σ H12 ⟨l1, v7, v9, v10, rfl, tx1, st12⟩
      refine ⟨_, rfl, b, 4, rfl, _, _, _, st12, by decide, by decide, fun H13 x13 st13 _ x130 x131 => ?_⟩
      obtain ⟨nd3, rfl⟩ := Int.eq_ofNat_of_zero_le x130
      have ed3 : ((nd3 : Int)).toNat = nd3 := by omega
      refine ⟨_, rfl, by omega, by omega, for_it (walk_range (lo := 0)) (fun j σ H' => (∃ (lj : List Nat) (v7 v9 v10 : Option V), σ = [some (.ref sc), some (.ref b), some (.ref kp), some (.ref rp), some (.str many), some (.str wideT), some (.ref od), v7, some (.str (S lj)), v9, v10] ∧ TxM j lj) ∧
        St (TL Pt) H2 F2 (boxT b :: lstT od ((oddA many ++ oddB).map V.str) :: [datT K rp (rows.map rowD)]) H') ⟨⟨l1, _, _, _, rfl, tx1⟩, st13⟩ (fun _ _ _ _ _ => True.intro) ?_ ?_⟩
      · rintro j x σ H14' H14 hj ⟨⟨lj, v7, v9, v10, rfl, txj⟩, st14⟩ ⟨rfl, rfl⟩
        exact ⟨_, rfl, _, rfl, b, lj, j, _, _, _, rfl, st14, by omega, txj, fun H15 l' st15 _ tx' => ⟨⟨l', _, _, _, rfl, tx'⟩, st15⟩⟩
      rintro σ H14 ⟨⟨lt, v7, v9, v10, rfl, txt⟩, st14⟩
      rw [ed3] at txt
      obtain ⟨txo, few⟩ := txt.ok (by omega)
      clear tx0 tx1 txt
      refine ⟨_, rfl, _, rfl, kp, ks, lt, rfl, hk st14, k4, txo, few, fun H15 due s15 hdue => ?_⟩
      have st15 := st14.same s15
      refine ⟨st15.tabs, fun f1 d1 Ha e1 t1 M1 => fun b' LB => ⟨f1, fun H' Q => SqT K H' kp (ks.map kdV) ∧ toldT K (txD ks lt) H' Q, Ha, rfl, ?_, Same.refl _, ?_⟩⟩
      · refine work_of (k := 15) (t := fun E => tCall (spReadP K (cs 6) (cs 12)) [] E (tCons (tVar 2) (tCons (tVar 8) tNil))) (ps := []) LB M1 (lamP_by (show lamPB N_law (defScope s_law) _ _ = true by decide +kernel)) (.inl ⟨rfl, fun _ _ _ _ _ _ => rfl⟩)
          (fun A outer s H E hr2 => pe_c (E := E) (X_read _) (hr2.mono (by decide)) (passes_at (fun σ => passAt (takes_of rfl rfl rfl rfl) σ)) (pa_cons (pv 2) (pa_cons (pv 8) pa_nil))) (fun H' Q' E s' Tt hE => ?_)
        exact ⟨_, rfl, _, rfl, kp, ks, lt, rfl, Tt.1, k1, k4, txo, toldT_told Tt.2 hE⟩
      have smA : SmT H15 Ha := .ext e1
      have sta := st15.ext e1 t1
      refine ⟨hk sta, toldT_of (hdue.keep smA) fun v H16 s16 ⟨m, hm, ha⟩ => ⟨_, rfl, v, due, rfl, m, hm, ha, _, rfl, ite2 (fun z => absurd z (by decide)) (fun _ => ?_)⟩⟩
      have st16 := sta.same s16
      have hdue16 := (hdue.keep smA).keep (.of s16)
      refine ⟨st16.tabs, fun f2 d2 Hb e2 t2 M2 => fun b' LB => ⟨f2, fun H' Q => SqT K H' kp (ks.map kdV) ∧ toldT K (txD ks lt) H' Q, Hb, rfl, ?_, Same.refl _, ?_⟩⟩
      · refine work_of (k := 15) (t := fun E => tCall (spReadP K (cs 6) (cs 12)) [] E (tCons (tVar 2) (tCons (tVar 8) tNil))) (ps := ["_law_a"]) LB M2 (lamP_by (show lamPB N_law (defScope s_law) _ _ = true by decide +kernel)) (.inr ⟨by simp, rfl, fun _ _ _ _ _ _ _ its hl => match its, hl with | [_], _ => ⟨_, rfl, rfl⟩⟩)
          (fun A outer s H E hr2 => pe_c (E := E) (X_read _) (hr2.mono (by decide)) (passes_at (fun σ => passAt (takes_of rfl rfl rfl rfl) σ)) (pa_cons (pv 2) (pa_cons (pv 8) pa_nil))) (fun H' Q' E s' Tt hE => ?_)
        exact ⟨_, rfl, _, rfl, kp, ks, lt, rfl, Tt.1, k1, k4, txo, toldT_told Tt.2 hE⟩
      have smB : SmT H16 Hb := .ext e2
      have stb := st16.ext e2 t2
      refine ⟨hk stb, toldT_of (hdue16.keep smB) fun v H17 s17 ⟨m, hm, ha⟩ => ⟨_, rfl, v, due, rfl, m, hm, ha, _, rfl, ite2 (fun z => absurd z (by decide)) (fun _ => ?_)⟩⟩
      exact ⟨⟨_, _, _, _, rfl⟩, stb.same s17⟩
    · rintro σ H9 _
      exact k _
end
end K3

set_option Elab.async false
set_option linter.all false
set_option maxRecDepth 100000
set_option maxHeartbeats 0
namespace K3
open PySem PySem.Spec PyProof.Rows L2
def mkD (x : Str) (st : Stmt) : He.DefD := ⟨(x, none), x, x, defArgs st, defBody st, defScope st, [], []⟩
def fnL : List He.DefD := [mkD "check_kinds" s_check_kinds, mkD "is_column" s_is_column, mkD "is_value" s_is_value, mkD "is_word" s_is_word, mkD "check_condition" s_check_condition, mkD "many_in" s_many_in, mkD "check_parts" s_check_parts, mkD "check_values_of" s_check_values_of, mkD "read" s_read, mkD "check_words" s_check_words, mkD "is_part" s_is_part, mkD "built" s_built, mkD "_law_begun" s__law_begun, mkD "_law_take" s__law_take, mkD "_law_alike" s__law_alike, mkD "_law_class" s__law_class, mkD "_law_told" s__law_told, mkD "_law_all" s__law_all, mkD "_law_kinds" s__law_kinds, mkD "_law_word" s__law_word, mkD "_law_value" s__law_value, mkD "_law_rows" s__law_rows, mkD "_law_near" s__law_near, mkD "_law_test" s__law_test, mkD "_law_narrow" s__law_narrow, mkD "_law_condition" s__law_condition, mkD "_law_text" s__law_text, mkD "_law_spoilt" s__law_spoilt, mkD "_law_value_of" s__law_value_of, mkD "_law_read" s__law_read, mkD "_law_made" s__law_made, mkD "_law_count" s__law_count, mkD "_law_due" s__law_due, mkD "law" s_law, ⟨("BadText", some "__init__"), "__init__", "BadText" ++ ".__init__", defArgs s_BadText, defBody s_BadText, defScope s_BadText, [], []⟩]
def faL : List He.Fa := [.glo "check_kinds", .glo "is_column", .glo "is_value", .glo "is_word", .glo "check_condition", .glo "many_in", .glo "check_parts", .glo "check_values_of", .glo "read", .glo "check_words", .glo "is_part", .glo "built", .glo "_law_begun", .glo "_law_take", .glo "_law_alike", .glo "_law_class", .glo "_law_told", .glo "_law_all", .glo "_law_kinds", .glo "_law_word", .glo "_law_value", .glo "_law_rows", .glo "_law_near", .glo "_law_test", .glo "_law_narrow", .glo "_law_condition", .glo "_law_text", .glo "_law_spoilt", .glo "_law_value_of", .glo "_law_read", .glo "_law_made", .glo "_law_count", .glo "_law_due", .glo "law", .glo "PARTS", .glo "BadNumber", .glo "BadValues", .glo "NoForm", .glo "BadPrices", .glo "BadKinds", .glo "BadRows", .glo "BadCondition", .glo "BadColumn", .glo "BadHeap", .glo "TooMany", .glo "BadBlock", .glo "Stopped", .glo "BadText", .glo "ColumnError", .int "MOST" 9999, .int "MOST_COLUMNS" 4, .int "MOST_LETTERS" 6, .int "MOST_CONDITIONS" 15, .int "MOST_AROUND" 7, .int "MOST_FIGURES" 4, .str "NUMBER" "number", .str "WORD" "word", .str "LETTERS" "abcdefghijklmnopqrstuvwxyz", .free "len", .free "tuple", .free "list", .free "int", .free "range", .free "enumerate", .free "reversed", .free "min", .free "max", .free "set", .free "sorted", .free "isinstance", .free "sum", .free "bool", .free "str", .free "ValueError", .free "all", .exc "BadKinds", .exc "BadCondition", .meth "BadText" "__init__"]
def tabL : List He.Tab := [(fun K => He.ga K "PARTS", partsK)]
def tfL : List He.Defn := [("law", none)]
def exL (K : PySem.W.Frag) : Bool := (partsB K (He.ga K "PARTS")) && (excBB K (He.ga K "ColumnError") && (excPB K (He.ga K "BadText") && (kindsB K (fun i => He.ga K (cnm i)) (He.ga K "ColumnError"))))
abbrev R : PySem.W.OpenRow := PySem.W.OpenLaw.row PySem.Challenge.rw_codecolumns_k20_texts_refused
abbrev hk : PySem.W.Hook := hookY 4 faL fnL tabL tfL exL
def ob (s : PySem.W.SharedT) : He.AlX := obsY 4 faL fnL tabL tfL exL (HandSHeadRun.getT s)
theorem ob_eq (s : PySem.W.SharedT) : ob s = hk.obs s.abs := obsY_eq (HandSHeadRun.getT_eq s)
def looseL : List Str := [("check_kinds" : Str), ("is_column" : Str), ("is_value" : Str), ("is_word" : Str), ("check_condition" : Str), ("many_in" : Str), ("check_parts" : Str), ("check_values_of" : Str), ("read" : Str), ("check_words" : Str), ("is_part" : Str), ("built" : Str), ("_law_begun" : Str), ("_law_take" : Str), ("_law_alike" : Str), ("_law_class" : Str), ("_law_told" : Str), ("_law_all" : Str), ("_law_kinds" : Str), ("_law_word" : Str), ("_law_value" : Str), ("_law_rows" : Str), ("_law_near" : Str), ("_law_test" : Str), ("_law_narrow" : Str), ("_law_condition" : Str), ("_law_holds" : Str), ("_law_text" : Str), ("_law_spoilt" : Str), ("_law_value_of" : Str), ("_law_read" : Str), ("_law_made" : Str), ("_law_count" : Str), ("_law_due" : Str), ("ColumnError" : Str), ("BadNumber" : Str), ("BadValues" : Str), ("NoForm" : Str), ("BadPrices" : Str), ("BadKinds" : Str), ("BadRows" : Str), ("BadCondition" : Str), ("BadColumn" : Str), ("BadHeap" : Str), ("TooMany" : Str), ("BadBlock" : Str), ("Stopped" : Str), ("BadText" : Str), ("MOST" : Str), ("NUMBER" : Str), ("WORD" : Str), ("MOST_COLUMNS" : Str), ("MOST_LETTERS" : Str), ("LETTERS" : Str), ("PARTS" : Str), ("MOST_CONDITIONS" : Str), ("MOST_AROUND" : Str), ("MOST_FIGURES" : Str)]
theorem run_f (w : World) : HandSHeadRun.RunEq R (PySem.W.view R.prog [63]) hk ob 9000 looseL (w.withFollow "special-get-raises" false) := by
  intro os
  kernel_rfl
theorem run_t (w : World) : HandSHeadRun.RunEq R (PySem.W.view R.prog [63]) hk ob 9000 looseL (w.withFollow "special-get-raises" true) := by
  intro os
  kernel_rfl
theorem run (w : World) : HandSHeadRun.RunEq R (PySem.W.view R.prog [63]) hk ob 9000 looseL w := PySem.W.byRow2 "special-get-raises" (P := fun w => HandSHeadRun.RunEq R (PySem.W.view R.prog [63]) hk ob 9000 looseL w) run_f run_t w
end K3

set_option Elab.async false
set_option linter.all false
set_option maxRecDepth 100000
set_option maxHeartbeats 0
namespace K3
open PySem PySem.Spec PyProof.Rows L2
/-! ### what the hook tells -/
theorem kkeys_of {K : PySem.W.Frag} {w : World} {a : Addr} {ks : List Str} (h : He.dicW K a = some (He.keysIn w.params ks)) : KKeys K w a ks := by
  obtain ⟨es, n, D⟩ := He.dicW_ok h
  refine ⟨es, n, D, ?_⟩
  unfold He.dicW at h
  rw [D.at_] at h
  have h1 : (match decide (("dict" : String) = "dict") && ((#[] : Array (Option Value)).isEmpty && !(a == sysModules)) with
    | true => some (es.toList.map He.keyOf)
    | false => none) = some (He.keysIn w.params ks) := h
  rw [D.low] at h1
  exact Option.some.inj h1
theorem tab_keys {w : World} {K : PySem.W.Frag} {fa : List He.Fa} {fn : List He.DefD} {ts : List He.Tab} (c : He.SaysT fa fn ts w K) (i : Nat) {t : He.Tab} (h : ts[i]? = some t := by rfl) : KKeys K w (t.1 K) t.2 := by
  have e : ts.map (fun t => He.dicW K (t.1 K)) = ts.map fun t => some (He.keysIn w.params t.2) := congrArg (fun z : He.AlT => z.2) c
  have e2 : (ts.map fun t => He.dicW K (t.1 K))[i]? = (ts.map fun t => some (He.keysIn w.params t.2))[i]? := by rw [e]
  rw [List.getElem?_map, List.getElem?_map, h] at e2
  exact kkeys_of (Option.some.inj e2)
theorem kdct_of {K : PySem.W.Frag} {w : World} {d : Addr} {ks : List Str} {kvs : List (Str × He.Dv)} (k : KKeys K w d ks) (h : He.valsB K d kvs = true) {x y : Str} (m : (x, He.Dv.glo y) ∈ kvs) : KDct K w d x (.ref (He.ga K y)) := by
  obtain ⟨es, n, D, _⟩ := k.ex
  obtain ⟨u, e, r⟩ := He.valsB_ok h m
  exact ⟨es, n, u, D.at_, D.lit, e, r⟩
theorem held_of {P : Program} {w : World} {K : PySem.W.Frag} {mg : Str → Option Value} {base : Heap} {k j : Nat} {x : Str} {ps : List Str} {sp : Sp} {a : Addr} (F : Fn P w K mg base CX0 k x ps sp) (hm : mg x = some (.ref a)) (hk : k ≤ j) : Held P w K mg base j a sp := by
  obtain ⟨f, fd, G, g, kp, b⟩ := F.ex
  obtain rfl : f = a := Value.ref.inj (Option.some.inj (g.symm.trans hm))
  exact ⟨fd, ps, G.mono hk, kp, b⟩
section
variable {P : Program} {w : World} {K : PySem.W.Frag} {h : Heap} {mg : Str → Option Value}
theorem df_of (X : K.In h) (G : h.Ns mainGlobals mg) (c : He.SaysD faL fnL K) (i j : Nat) {x : Str} {st : Stmt} {ps : List Str} (hd : fnL[i]? = some (mkD x st)) (hg : faL[j]? = some (.glo x))
    (hb : ∀ (kV doc pm : Value) (an : Option Addr) (cdv ct : Value) (us : List Value), us.length = ps.length → bindArgs (PySem.W.fnOf x x (defArgs st) (defBody st) (defScope st) .none kV doc pm an cdv ct) ⟨us, []⟩ = pure (ps.zip us)) : Df K mg x st ps := by
  obtain ⟨fd, F⟩ := c.def_ i hd
  exact ⟨_, fd, F, He.glo_ok X G (c.fact j hg), FunD.bindsN F hb⟩
theorem txt_of (X : K.In h) (G : h.Ns mainGlobals mg) (c : He.SaysD faL fnL K) : Txt mg where
  c_MOST := He.int_ok X G (c.fact 49 rfl)
  b_len := He.free_ok X G (c.fact 58 rfl)
  b_tuple := He.free_ok X G (c.fact 59 rfl)
  b_list := He.free_ok X G (c.fact 60 rfl)
  b_int := He.free_ok X G (c.fact 61 rfl)
  b_range := He.free_ok X G (c.fact 62 rfl)
  b_enumerate := He.free_ok X G (c.fact 63 rfl)
  b_reversed := He.free_ok X G (c.fact 64 rfl)
  b_min := He.free_ok X G (c.fact 65 rfl)
  b_max := He.free_ok X G (c.fact 66 rfl)
  b_set := He.free_ok X G (c.fact 67 rfl)
  b_sorted := He.free_ok X G (c.fact 68 rfl)
  b_isinstance := He.free_ok X G (c.fact 69 rfl)
theorem law_facts {f : Addr} (X : K.In h) (G : h.Ns mainGlobals mg) (hfa : mg ("law" : Str) = some (.ref f)) (cx : He.SaysX faL fnL tabL tfL exL w h K) :
    ∃ fd : FuncData, (∀ (s : Shared) (v : Value), BindsTo s fd ⟨[v], []⟩ [("_law_script", v)]) ∧ ∀ base : Heap, K.In base → base.Ns mainGlobals mg → LamX.TabB base mg (He.cT K ("law", none)).1 (He.cT K ("law", none)).2 → FnOk P w K mg base CX0 67 f fd ["_law_script"] (spLawT K (He.cT K ("law", none)).2) := by
  have c := cx.t.d
  obtain ⟨fd, F⟩ := c.def_ 33 (d := mkD "law" s_law) rfl
  have e := hfa.symm.trans (He.glo_ok X G (c.fact 33 (f := .glo "law") rfl))
  cases e
  have hcode_law : fd.code = .ref (He.cT K ("law", none)).1 := by
    obtain ⟨oc, od, dV, kV, doc, pm, an, cdv, ct, osl, rfl, lk, hcd, _, _⟩ := F.ex
    obtain ⟨cc, ec⟩ := He.codeIn_ref hcd
    have e2 := He.codeOf_eq (p := ("law", none)) lk ec
    show cdv = _
    rw [ec, ← e2]
    rfl
  have b := FunD.bindsA (ps := ["_law_script"]) F fun _ _ _ _ _ _ us hl => match us, hl with | [_], _ => rfl
  refine ⟨fd, fun s v => b s [v] rfl, fun base _ _ TB_law => ?_⟩
  have T := txt_of X G c
  have D_check_kinds : Df K mg "check_kinds" s_check_kinds P_check_kinds := df_of X G c 0 0 rfl rfl fun _ _ _ _ _ _ us hl => match us, hl with | [_], _ => rfl
  have D_is_column : Df K mg "is_column" s_is_column P_is_column := df_of X G c 1 1 rfl rfl fun _ _ _ _ _ _ us hl => match us, hl with | [_, _], _ => rfl
  have D_is_value : Df K mg "is_value" s_is_value P_is_value := df_of X G c 2 2 rfl rfl fun _ _ _ _ _ _ us hl => match us, hl with | [_, _], _ => rfl
  have D_is_word : Df K mg "is_word" s_is_word P_is_word := df_of X G c 3 3 rfl rfl fun _ _ _ _ _ _ us hl => match us, hl with | [_], _ => rfl
  have D_check_condition : Df K mg "check_condition" s_check_condition P_check_condition := df_of X G c 4 4 rfl rfl fun _ _ _ _ _ _ us hl => match us, hl with | [_, _], _ => rfl
  have D_many_in : Df K mg "many_in" s_many_in P_many_in := df_of X G c 5 5 rfl rfl fun _ _ _ _ _ _ us hl => match us, hl with | [_, _, _], _ => rfl
  have D_check_parts : Df K mg "check_parts" s_check_parts P_check_parts := df_of X G c 6 6 rfl rfl fun _ _ _ _ _ _ us hl => match us, hl with | [_], _ => rfl
  have D_check_values_of : Df K mg "check_values_of" s_check_values_of P_check_values_of := df_of X G c 7 7 rfl rfl fun _ _ _ _ _ _ us hl => match us, hl with | [_, _], _ => rfl
  have D_read : Df K mg "read" s_read P_read := df_of X G c 8 8 rfl rfl fun _ _ _ _ _ _ us hl => match us, hl with | [_, _], _ => rfl
  have D_check_words : Df K mg "check_words" s_check_words P_check_words := df_of X G c 9 9 rfl rfl fun _ _ _ _ _ _ us hl => match us, hl with | [_], _ => rfl
  have D_is_part : Df K mg "is_part" s_is_part P_is_part := df_of X G c 10 10 rfl rfl fun _ _ _ _ _ _ us hl => match us, hl with | [_], _ => rfl
  have D_built : Df K mg "built" s_built P_built := df_of X G c 11 11 rfl rfl fun _ _ _ _ _ _ us hl => match us, hl with | [_], _ => rfl
  have D__law_begun : Df K mg "_law_begun" s__law_begun P__law_begun := df_of X G c 12 12 rfl rfl fun _ _ _ _ _ _ us hl => match us, hl with | [_], _ => rfl
  have D__law_take : Df K mg "_law_take" s__law_take P__law_take := df_of X G c 13 13 rfl rfl fun _ _ _ _ _ _ us hl => match us, hl with | [_, _], _ => rfl
  have D__law_alike : Df K mg "_law_alike" s__law_alike P__law_alike := df_of X G c 14 14 rfl rfl fun _ _ _ _ _ _ us hl => match us, hl with | [_, _], _ => rfl
  have D__law_class : Df K mg "_law_class" s__law_class P__law_class := df_of X G c 15 15 rfl rfl fun _ _ _ _ _ _ us hl => match us, hl with | [_], _ => rfl
  have D__law_told : Df K mg "_law_told" s__law_told P__law_told := df_of X G c 16 16 rfl rfl fun _ _ _ _ _ _ us hl => match us, hl with | [_], _ => rfl
  have D__law_all : Df K mg "_law_all" s__law_all P__law_all := df_of X G c 17 17 rfl rfl fun _ _ _ _ _ _ us hl => match us, hl with | [_, _], _ => rfl
  have D__law_kinds : Df K mg "_law_kinds" s__law_kinds P__law_kinds := df_of X G c 18 18 rfl rfl fun _ _ _ _ _ _ us hl => match us, hl with | [_], _ => rfl
  have D__law_word : Df K mg "_law_word" s__law_word P__law_word := df_of X G c 19 19 rfl rfl fun _ _ _ _ _ _ us hl => match us, hl with | [_], _ => rfl
  have D__law_value : Df K mg "_law_value" s__law_value P__law_value := df_of X G c 20 20 rfl rfl fun _ _ _ _ _ _ us hl => match us, hl with | [_, _], _ => rfl
  have D__law_rows : Df K mg "_law_rows" s__law_rows P__law_rows := df_of X G c 21 21 rfl rfl fun _ _ _ _ _ _ us hl => match us, hl with | [_, _, _], _ => rfl
  have D__law_near : Df K mg "_law_near" s__law_near P__law_near := df_of X G c 22 22 rfl rfl fun _ _ _ _ _ _ us hl => match us, hl with | [_, _, _, _], _ => rfl
  have D__law_test : Df K mg "_law_test" s__law_test P__law_test := df_of X G c 23 23 rfl rfl fun _ _ _ _ _ _ us hl => match us, hl with | [_, _, _], _ => rfl
  have D__law_narrow : Df K mg "_law_narrow" s__law_narrow P__law_narrow := df_of X G c 24 24 rfl rfl fun _ _ _ _ _ _ us hl => match us, hl with | [_, _, _], _ => rfl
  have D__law_condition : Df K mg "_law_condition" s__law_condition P__law_condition := df_of X G c 25 25 rfl rfl fun _ _ _ _ _ _ us hl => match us, hl with | [_, _, _, _], _ => rfl
  have D__law_text : Df K mg "_law_text" s__law_text P__law_text := df_of X G c 26 26 rfl rfl fun _ _ _ _ _ _ us hl => match us, hl with | [_], _ => rfl
  have D__law_spoilt : Df K mg "_law_spoilt" s__law_spoilt P__law_spoilt := df_of X G c 27 27 rfl rfl fun _ _ _ _ _ _ us hl => match us, hl with | [_, _], _ => rfl
  have D__law_value_of : Df K mg "_law_value_of" s__law_value_of P__law_value_of := df_of X G c 28 28 rfl rfl fun _ _ _ _ _ _ us hl => match us, hl with | [_], _ => rfl
  have D__law_read : Df K mg "_law_read" s__law_read P__law_read := df_of X G c 29 29 rfl rfl fun _ _ _ _ _ _ us hl => match us, hl with | [_, _], _ => rfl
  have D__law_made : Df K mg "_law_made" s__law_made P__law_made := df_of X G c 30 30 rfl rfl fun _ _ _ _ _ _ us hl => match us, hl with | [_], _ => rfl
  have D__law_count : Df K mg "_law_count" s__law_count P__law_count := df_of X G c 31 31 rfl rfl fun _ _ _ _ _ _ us hl => match us, hl with | [_, _, _], _ => rfl
  have D__law_due : Df K mg "_law_due" s__law_due P__law_due := df_of X G c 32 32 rfl rfl fun _ _ _ _ _ _ us hl => match us, hl with | [_, _], _ => rfl
  have K_PARTS := tab_keys cx.t 0 rfl
  have hex := cx.more
  obtain ⟨hexE, hex⟩ := Bool.and_eq_true_iff.mp hex
  obtain ⟨hexB, hex⟩ := Bool.and_eq_true_iff.mp hex
  obtain ⟨hexP_BadText, hex⟩ := Bool.and_eq_true_iff.mp hex
  have KS : Kinds K mg (fun i => He.ga K (cnm i)) (He.ga K "ColumnError") := kinds_of hex (fun i hi => by
    match i, hi with
    | 0, _ => exact He.glo_ok X G (c.fact 35 (f := .glo "BadNumber") rfl)
    | 1, _ => exact He.glo_ok X G (c.fact 36 (f := .glo "BadValues") rfl)
    | 2, _ => exact He.glo_ok X G (c.fact 37 (f := .glo "NoForm") rfl)
    | 3, _ => exact He.glo_ok X G (c.fact 38 (f := .glo "BadPrices") rfl)
    | 4, _ => exact He.glo_ok X G (c.fact 39 (f := .glo "BadKinds") rfl)
    | 5, _ => exact He.glo_ok X G (c.fact 40 (f := .glo "BadRows") rfl)
    | 6, _ => exact He.glo_ok X G (c.fact 41 (f := .glo "BadCondition") rfl)
    | 7, _ => exact He.glo_ok X G (c.fact 42 (f := .glo "BadColumn") rfl)
    | 8, _ => exact He.glo_ok X G (c.fact 43 (f := .glo "BadHeap") rfl)
    | 9, _ => exact He.glo_ok X G (c.fact 44 (f := .glo "TooMany") rfl)
    | 10, _ => exact He.glo_ok X G (c.fact 45 (f := .glo "BadBlock") rfl)
    | 11, _ => exact He.glo_ok X G (c.fact 46 (f := .glo "Stopped") rfl)
    | 12, _ => exact He.glo_ok X G (c.fact 47 (f := .glo "BadText") rfl)
    | n + 13, h => exact absurd h (by omega)) (He.glo_ok X G (c.fact 48 (f := .glo "ColumnError") rfl))
  have XB : ExcB K mg (He.ga K "ColumnError") := excBB_ok hexB (He.glo_ok X G (c.fact 48 (f := .glo "ColumnError") rfl))
  have XP_BadText : ExcP K mg "BadText" s_BadText (He.ga K "BadText") := by
    obtain ⟨o1, o2⟩ := excPB_ok hexP_BadText
    obtain ⟨fI, FI⟩ := c.def_ 34 rfl
    have mI := He.meth_ok (c.fact 77 (f := .meth "BadText" "__init__") rfl)
    exact ⟨He.glo_ok X G (c.fact 47 (f := .glo "BadText") rfl), o1, o2, _, fI, FI, FunD.bindsN FI fun _ _ _ _ _ _ us hl => match us, hl with | [_, _], _ => rfl, mI.at_, beq_iff_eq.mp mI.fn⟩
  have X_BadKinds : ExcN K mg "BadKinds" (He.ga K "BadKinds") := by
    obtain ⟨x1, x2, x3, x4⟩ := He.exc_ok (c.fact 75 (f := .exc "BadKinds") rfl)
    exact ⟨He.glo_ok X G (c.fact 39 (f := .glo "BadKinds") rfl), x1, x2, x3, x4⟩
  have X_BadCondition : ExcN K mg "BadCondition" (He.ga K "BadCondition") := by
    obtain ⟨x1, x2, x3, x4⟩ := He.exc_ok (c.fact 76 (f := .exc "BadCondition") rfl)
    exact ⟨He.glo_ok X G (c.fact 41 (f := .glo "BadCondition") rfl), x1, x2, x3, x4⟩
  have T4 : Txt4 mg := ⟨He.free_ok X G (c.fact 71 rfl), He.free_ok X G (c.fact 72 rfl), He.free_ok X G (c.fact 70 rfl)⟩
  have TE : TxtE mg := ⟨He.free_ok X G (c.fact 73 rfl)⟩
  have TK : TxtK mg := ⟨He.str_ok X G (c.fact 55 rfl), He.str_ok X G (c.fact 56 rfl), He.str_ok X G (c.fact 57 rfl), He.int_ok X G (c.fact 50 rfl), He.int_ok X G (c.fact 51 rfl), He.int_ok X G (c.fact 52 rfl), He.int_ok X G (c.fact 53 rfl), He.free_ok X G (c.fact 74 rfl)⟩
  have c_MOST_FIGURES : ∃ t, mg "MOST_FIGURES" = some (.int 4 t) := He.int_ok X G (c.fact 54 rfl)
  obtain ⟨es, n0, PA⟩ := parts_of (He.glo_ok X G (c.fact 34 (f := .glo "PARTS") rfl)) K_PARTS hexE
  have G_is_word : ∀ b, Fn P w K mg b CX0 1 "is_word" P_is_word (spIsW K) := fun b => ok_is_word T T4 TK D_is_word
  have X_values : ∀ b, Fn P w K mg b (L2.CX P w) 3 "check_values_of" P_check_values_of (spCkV K (He.ga K "BadCondition")) := fun b => ok_check_values_of T TK X_BadCondition D_check_values_of (ok_is_column T D_is_column) (ok_is_value T TK D_is_value (G_is_word b))
  have X_many : ∀ b, Fn P w K mg b (L2.CX P w) 12 "many_in" P_many_in (spManyX K (He.ga K "BadCondition") 8) := fun b => ok_manyX PA T T4 TK X_BadCondition D_many_in (ok_check_parts PA T T4 X_BadCondition D_check_parts) (X_values b) 8 (Nat.le_refl _)
  have X_cond : ∀ b, Fn P w K mg b (L2.CX P w) 13 "check_condition" P_check_condition (spCkCX K (He.ga K "BadCondition")) := fun b => ok_check_conditionX T TK X_BadCondition D_check_condition (X_many b)
  have X_words : ∀ b, Fn P w K mg b (L2.CX P w) 3 "check_words" P_check_words (spCkW K (He.ga K "BadText")) := fun b => ok_check_words PA T XB XP_BadText D_check_words (ok_is_part T T4 c_MOST_FIGURES D_is_part (G_is_word b))
  have X_read : ∀ b, Fn P w K mg b (L2.CX P w) 14 "read" P_read (spReadP K (He.ga K (cnm 6)) (He.ga K (cnm 12))) := fun b => ok_read T D_read (ok_check_kinds T TK D_check_kinds) (X_words b) (ok_built PA T D_built) (X_cond b)
  have G_begun := ok_begun (P := P) (w := w) (K := K) (base := base) T D__law_begun
  have G_take := draw_of (T := TL (He.cT K ("law", none)).2) (ok_take (P := P) (w := w) (K := K) (base := base) T D__law_take)
  have G_alike := ok_alike (P := P) (w := w) (K := K) (base := base) T T4 D__law_alike 12
  have G_told : ∀ b, Fn P w K mg b CX0 17 "_law_told" P__law_told (spTold P w K mg 15 (fun i => He.ga K (cnm i)) b) := fun b => ok_toldB (k := 15) KS (ok_class T TE KS D__law_class) D__law_told
  have G_kinds := ok_kinds T D__law_kinds G_take
  have G_word := ok_word T D__law_word G_take
  have G_value := ok_value T D__law_value G_take G_word
  have G_rows := ok_rows T D__law_rows G_take G_value
  have G_near := ok_near T D__law_near G_take G_value
  have G_test := ok_test T D__law_test G_take G_near
  have G_narrow := ok_narrow T D__law_narrow G_take G_test
  have G_cond := ok_cond T D__law_condition G_take G_test G_narrow 3 (by decide)
  have G_text := ok_text (P := P) (w := w) (base := base) T T4 D__law_text 7
  have G_spoil := ok_spoil T D__law_spoilt G_take
  have G_vof := ok_value_of (P := P) (w := w) (K := K) (base := base) T T4 D__law_value_of
  have G_read2 := ok_read2 T D__law_read G_vof
  have G_made2 := ok_made2 T D__law_made G_vof 63
  have G_cnt := ok_count2 (P := P) (w := w) (base := base) T T4 D__law_count 8 (Nat.le_refl _)
  have G_due := ok_dueT T D__law_due G_read2 G_made2 G_cnt
  exact ok_lawT (cs := fun i => He.ga K (cnm i)) T F hcode_law TB_law G_told G_alike G_begun G_take G_kinds G_rows G_cond G_text G_spoil G_due X_read
end
end K3
open PySem PySem.W PySem.Calls PyProof.Rows
theorem PySem.Challenge.cw_codecolumns_k20_texts_refused_holds : PySem.Challenge.rw_codecolumns_k20_texts_refused.Holds := by
  w_on; o_law
  refine HandSHeadRun.head_any (r := OpenLaw.row PySem.Challenge.rw_codecolumns_k20_texts_refused) (q := view (OpenLaw.row PySem.Challenge.rw_codecolumns_k20_texts_refused).prog [63]) (H := K3.hk) (ob := K3.ob) (M := 9000) (loose := K3.looseL) (d := HandSHeadRun.topDef (OpenLaw.row PySem.Challenge.rw_codecolumns_k20_texts_refused).prog 63) (kwd := []) K3.ob_eq
    (by kernel_rfl) (fun s => by kernel_rfl) K3.run (by kernel_rfl) (by kernel_rfl) (by kernel_rfl) (by rfl) (by first | assumption | decide +kernel) (by decide +kernel) ⟨rfl, rfl, rfl, rfl, rfl, by decide +kernel⟩ ?hw ?hc
  case hw => w_witness2
  case hc =>
    refine K3.walk_ofTE (l := PySem.Challenge.rw_codecolumns_k20_texts_refused) (n := 63) (k := 67) (x := "_law_script") (CX := fun _ => L2.CX0) rfl (by decide) (by kernel_rfl) ⟨rfl, by decide, by decide⟩ ?F (fun _ _ _ _ _ z => z)
    intro w mg fa h Y G hmg0
    obtain ⟨K, KX, c⟩ := Y
    have hmg : mg ("law" : PySem.Str) = some (.ref fa) := by
      have e : (HandSHeadRun.topDef (OpenLaw.row PySem.Challenge.rw_codecolumns_k20_texts_refused).prog 63).name = ("law" : PySem.Str) := by kernel_rfl
      rw [← e]
      exact hmg0
    obtain ⟨fd, hb, hF⟩ := K3.law_facts (P := (PySem.Challenge.rw_codecolumns_k20_texts_refused).prog) (w := w) KX G hmg c
    refine ⟨K, KX, fd, K3.tfL.map (He.cT K), K3.spLawT K (He.cT K ("law", none)).2, fun p hp => ?_, fun p hp => ?_, fun p hp => ?_, hb, fun H a ns hl hbits hT hS => ?_, fun base kb nb TBs => hF base kb nb (TBs (He.cT K ("law", none)) (List.mem_map.mpr ⟨("law", none), by simp [K3.tfL], rfl⟩))⟩
    · obtain ⟨q, hq, e⟩ := List.mem_map.mp hp
      rw [← e]
      exact c.empty q hq
    · obtain ⟨q, hq, e⟩ := List.mem_map.mp hp
      rw [← e]
      exact c.out q hq
    · obtain ⟨q, hq, e⟩ := List.mem_map.mp hp
      rw [← e]
      exact codeHd_of_K KX (c.hd q hq)
    · exact ⟨a, ns, rfl, hS, hl, K3.tabs_start hT (fun q hq => ⟨He.cT K ("law", none), List.mem_map.mpr ⟨("law", none), by simp [K3.tfL], rfl⟩, by rw [List.mem_singleton.mp hq]⟩), fun _ => rfl⟩
