import PyProof.Rows.All
import Wide.All
import OpenK.AllK
import Wide.FinOn
import PyProof.TypeEq
import HandS.ForExc
import HandS.Comp
import HandS.Defaults
import HandS.Zip
import HandS.IsInst
import HandS.TupAny
import HandS.TupMul
import HandS.Wide
import HandS.ExcIs
import HandS.ExcCtx
import HandS.HotCalls
import HandS.Evl
import HandS.EndBits
import HandS.Head0
import HandS.Head1
import HandS.Head2
import HandS.HeadEnd
import HandS.HeadHook1
import HandS.HeadHook2
import HandS.HeadHook3
import HandS.HeadHook4
import HandS.Text
import PyProof.StrBlock2
import PyProof.Rows.RegStrCode
import KE.DataCmp
import HandS.WideBits
import HandS.RevRange
import HandS.Conv
import KE.KEqDeep
import HandS.Words
import HandS.Dict
import KE.IntBitsLaws
import PySem.Challenge.RW_partline_k10_whole_by_and_by
set_option Elab.async false
set_option linter.all false
set_option maxRecDepth 100000
set_option maxHeartbeats 4000000
namespace Pl
open PySem PySem.Spec PyProof.Rows L2

/-! ### data: what stands there, whatever its place -/
mutual
theorem dp_same {K : PySem.W.Frag} {H H' : Hp} (e : Same H H') : ∀ (d : PyData) (v : V), Dp K H v d → Dp K H' v d
  | .none, _, h => by cases h; exact .non
  | .bool b, _, h => by cases h; exact .bl b
  | .int i, _, h => by cases h; exact .int i
  | .str x, _, h => by cases h; exact .str x
  | .list ds, _, h => by
    cases h with
    | lst hs ha => exact .lst (e.seq hs) (dpa_same e ds _ ha)
  | .tuple ds, _, h => by
    cases h with
    | tup hs ha =>
      refine .tup ?_ (dpa_same e ds _ ha)
      rcases hs with (h | ⟨o, h⟩) | h
      · exact .inl (.inl (e _ _ h))
      · exact .inl (.inr ⟨o, e _ _ h⟩)
      · exact .inr h
  | .dict _, _, h => by cases h
theorem dpa_same {K : PySem.W.Frag} {H H' : Hp} (e : Same H H') : ∀ (ds : List PyData) (vs : List V), DpAll K H vs ds → DpAll K H' vs ds
  | [], _, h => by cases h; exact .nil
  | d :: ds, _, h => by
    cases h with
    | cons h1 h2 => exact .cons (dp_same e d _ h1) (dpa_same e ds _ h2)
end
theorem same_t {K : PySem.W.Frag} {H H' : Hp} {a : Addr} {xs : List V} (e : Same H H') (h : SqT K H a xs) : SqT K H' a xs := by
  rcases h with (h | ⟨o, h⟩) | h
  · exact .inl (.inl (e _ _ h))
  · exact .inl (.inr ⟨o, e _ _ h⟩)
  · exact .inr h
theorem same_upd {H : Hp} {p : Addr} {o : HO} (h : H p = none) : Same H (upd H p o) := fun b x e => by
  rw [upd_ne (ne_of_none e h)]
  exact e
theorem same_new {H H' : Hp} {p : Addr} {o : HO} (s : Same H H') (h : H' p = none) : Same H (upd H' p o) := s.trans (same_upd h)
/-- an object that H does not know may change -/
theorem same_mut {H H' : Hp} {p : Addr} {o : HO} (e : Same H H') (h : H p = none) : Same H (upd H' p o) := fun a u ha => by
  rw [upd_ne (ne_of_none ha h)]
  exact e a u ha
theorem dp_int {K : PySem.W.Frag} {H : Hp} {v : V} {i : Int} (h : Dp K H v (.int i)) : v = .int i := by cases h; rfl
theorem dpa_ints {K : PySem.W.Frag} {H : Hp} : ∀ (ns : List Int), DpAll K H (ns.map V.int) (ns.map PyData.int)
  | [] => .nil
  | n :: r => .cons (.int n) (dpa_ints r)
theorem dpa_ints_eq {K : PySem.W.Frag} {H : Hp} : ∀ {vs : List V} {ns : List Int}, DpAll K H vs (ns.map PyData.int) → vs = ns.map V.int
  | _, [], h => by cases h; rfl
  | _, n :: r, h => by
    cases h with
    | cons h1 h2 => rw [dp_int h1, dpa_ints_eq h2]; rfl
theorem dpa_len {K : PySem.W.Frag} {H : Hp} : ∀ {vs : List V} {ds : List PyData}, DpAll K H vs ds → vs.length = ds.length
  | _, [], h => by cases h; rfl
  | _, d :: ds, h => by
    cases h with
    | cons h1 h2 => exact congrArg Nat.succ (dpa_len h2)
theorem dpa_get {K : PySem.W.Frag} {H : Hp} : ∀ {vs : List V} {ds : List PyData} {i : Nat} {d : PyData}, DpAll K H vs ds → ds[i]? = some d → ∃ v, vs[i]? = some v ∧ Dp K H v d
  | _, [], _, _, _, h => by simp at h
  | _, x :: ds, 0, d, h, e => by
    cases h with
    | cons h1 h2 => cases (Option.some.inj e); exact ⟨_, rfl, h1⟩
  | _, x :: ds, i + 1, d, h, e => by
    cases h with
    | cons h1 h2 => exact dpa_get (i := i) h2 e
theorem dpa_app {K : PySem.W.Frag} {H : Hp} : ∀ {vs us : List V} {ds es : List PyData}, DpAll K H vs ds → DpAll K H us es → DpAll K H (vs ++ us) (ds ++ es)
  | _, _, [], _, h, h2 => by cases h; exact h2
  | _, _, d :: ds, _, h, h2 => by
    cases h with
    | cons a b => exact .cons a (dpa_app b h2)

/-! ### type(x), == and != of types -/
def tyName : PyData → String
  | .none => "NoneType"
  | .bool _ => "bool"
  | .int _ => "int"
  | .str _ => "str"
  | .list _ => "list"
  | .tuple _ => "tuple"
  | .dict _ => "dict"
section
variable {X : Cx}
theorem dp_type {pins : List (Addr × Obj)} {σ : L2.St} {H : Hp} {s : Shared} {x : V} {u : Value} {d : PyData} (t : Dp X.K H x d) (I : Inv X pins σ H s) (r : RelV x u) :
    s.TypeIs u (tyName d) ∧ (Value.type (tyName d) == Value.type "builtin_function_or_method") = false := by
  have nb : (Value.type (tyName d) == Value.type "builtin_function_or_method") = false := by
    cases d <;> (simp only [tyName]; decide +kernel)
  refine ⟨?_, nb⟩
  cases t with
  | non => cases (show u = Value.none from r); exact rfl
  | bl b => cases (show u = Value.bool b from r); exact rfl
  | int i =>
    obtain ⟨k, rfl⟩ := (show ∃ t, u = Value.int i t from r)
    exact typeIs_int s i k
  | str z =>
    obtain ⟨k, rfl⟩ := (show ∃ t, u = Value.str z t from r)
    exact typeIs_str s z k
  | lst e _ =>
    cases (show u = Value.ref _ from r)
    obtain ⟨its, rv, p, _⟩ := I.list e
    exact p.isList.typeIs
  | tup e _ =>
    cases (show u = Value.ref _ from r)
    obtain ⟨its, rv, p, _⟩ := I.tuple e
    exact p.typeIs
def rTyD (K : PySem.W.Frag) : List V → Hp → VK → Prop := fun xs H Q => ∃ (x : V) (d : PyData), xs = [x] ∧ Dp K H x d ∧ Q (.ty (tyName d)) H
theorem call_typeD : CallR X (.type "type") (rTyD X.K) := by
  intro pins s σ H xs us Q I r h
  obtain ⟨x, d, rfl, t, q⟩ := h
  obtain ⟨u, rfl, rx⟩ := vals1 r
  obtain ⟨h1, h2⟩ := dp_type t I rx
  exact call_type_of h1 h2 ⟨.ty (tyName d), H, I, rfl, q⟩
def tyNames : List String := ["NoneType", "bool", "int", "str", "list", "tuple", "dict"]
theorem meta_of {n : String} (h : n ∈ tyNames) (s' : Shared) : s'.TypeIs (.type n) "type" := by
  simp only [tyNames, List.mem_cons, List.not_mem_nil, or_false] at h
  rcases h with rfl | rfl | rfl | rfl | rfl | rfl | rfl
  · exact TypeEq.meta_NoneType s'
  · exact TypeEq.meta_bool s'
  · exact TypeEq.meta_int s'
  · exact TypeEq.meta_str s'
  · exact TypeEq.meta_list s'
  · exact TypeEq.meta_tuple s'
  · exact TypeEq.meta_dict s'
theorem tyName_mem (d : PyData) : tyName d ∈ tyNames := by
  cases d <;> simp [tyName, tyNames]
def rEqTy : R2 := fun x y H Q => ∃ a b, x = .ty a ∧ y = .ty b ∧ a ∈ tyNames ∧ b ∈ tyNames ∧ Q (.bl (decide (a = b))) H
theorem op_eqTy : OpR X (compareOp .Eq) rEqTy := by
  intro pins s σ H x y v u Q I rx ry h
  obtain ⟨a, b, rfl, rfl, ha, hb, q⟩ := h
  cases rx
  cases ry
  by_cases e : a = b
  · subst e
    rw [decide_eq_true rfl] at q
    exact TypeEq.eq_type_same (meta_of ha) ⟨.bl true, H, I, rfl, q⟩
  · rw [decide_eq_false e] at q
    refine TypeEq.eq_type_other (meta_of ha) (meta_of hb) ?_ ⟨.bl false, H, I, rfl, q⟩
    rw [Bool.eq_false_iff]
    intro z
    exact e (Value.type.inj (beq_iff_eq.mp z))
end
/-! ### != of types -/
theorem slot_type_ne : Slot "type" (cmpInfo .NotEq).2.1 "object.__ne__" :=
  .of (owner := "object") (n := "__ne__") (by rw [typeLookup_type, builtinLookup_eq_fast]; kernel_rfl) (by decide +kernel) (by decide +kernel) (by decide +kernel)
    (by first | exact .inl (by decide +kernel) | exact .inr (by decide +kernel)) (by rw [isSubtype_type]; kernel_rfl)
theorem slot_type_ne_refl : Slot "type" (cmpInfo .NotEq).2.2 "object.__ne__" := slot_type_ne
section
variable {prog : Program} {w : World} {A : Around} {E : Value → Shared → Prop} {s : Shared} {Q : Value → Shared → Prop}
theorem call_type_ne {X Y : String} (hX : ∀ s' : Shared, s'.TypeIs (.type X) "type") {r : Value} (hr : r = if (Value.type X == Value.type Y) then .bool false else .notImplemented) (h : Q r s) :
    wpAny (model prog w) A (call (.builtin "object.__ne__") [.type X, .type Y]) Q E s := by
  refine wpAny_call (codeAny_call_builtin slot_type_ne.plain PySem.F.cmpEntry_ne (slot_type_ne.check _ _ _ _ _ _ _ _ (hX s) (PySem.F.cmpArgs_ne _ _) ?_))
  unfold Builtin.«object.__ne__»
  refine wpAny_bind (wpAny_of_eq (a := ((Value.type X : Value), [Value.type Y])) (by first | rfl | (simp only [slotArgs]; rfl)) ?_)
  refine wpAny_bind (wpAny_cRoomFor_or (.inl rfl) ?_)
  refine wpAny_bind (wpAny_callSpecialIfBound?_slot (hX s) TypeEq.slot_type_eq ?_)
  cases e : (Value.type X == Value.type Y) with
  | true =>
    rw [e] at hr
    subst hr
    refine call_gives TypeEq.slot_type_eq (hX s) F.entry_object_eq (F.args_object_eq_2 _ _) (TypeEq.object_eq_same rfl e) ?_
    show wpAny _ _ (truthy (.bool true) >>= _) _ _ _
    exact wpAny_bind (wpAny_truthy_bool (wpAny_pure h))
  | false =>
    rw [e] at hr
    subst hr
    refine call_gives TypeEq.slot_type_eq (hX s) F.entry_object_eq (F.args_object_eq_2 _ _) (TypeEq.object_eq_other rfl e) ?_
    exact wpAny_pure h
theorem ne_type {X Y : String} (hX : ∀ s' : Shared, s'.TypeIs (.type X) "type") (hY : ∀ s' : Shared, s'.TypeIs (.type Y) "type") (h : Q (.bool (!(Value.type X == Value.type Y))) s) : wpAny (model prog w) A (compareOp .NotEq (.type X) (.type Y)) Q E s := by
  show wpAny _ A (richCompare .NotEq _ _) Q E s
  cases e : (Value.type X == Value.type Y) with
  | true =>
    rw [e] at h
    exact wpAny_richCompare_same (T := "type") (hX s) (hY s) slot_type_ne (call_type_ne hX (by rw [e]; rfl) ⟨(fun z => by cases z), h⟩)
  | false =>
    rw [e] at h
    have e' : (Value.type Y == Value.type X) = false := by
      rw [Bool.eq_false_iff] at e ⊢
      intro z
      exact e (by rw [beq_iff_eq] at z ⊢; exact z.symm)
    rcases hi : cmpInfo CmpOp.NotEq with ⟨sym, f, r⟩
    have h1 := slot_type_ne
    have h2 := slot_type_ne_refl
    rw [hi] at h1 h2
    simp only [richCompare, hi, (hX s).oneThing_none]
    try with_reducible refine wpAny_holding ?_
    refine wpAny_bind (wpAny_cRoomFor_or (.inl rfl) ?_)
    refine wpAny_bind (wpAny_typeOf (hX s) (wpAny_bind (wpAny_typeOf (hY s) ?_)))
    simp only [bne_self_eq_false, Bool.false_eq_true, if_false, pure_bind, Bool.not_false, if_true]
    refine wpAny_bind (m := tryCompare _ _ _) (wpAny_tryCompare_declines (hX s) h1 (call_type_ne hX (by rw [e]; rfl) ⟨rfl, ?_⟩))
    refine wpAny_bind (m := tryCompare _ _ _) (wpAny_tryCompare_declines (hY s) h2 (call_type_ne hY (by rw [e']; rfl) ⟨rfl, ?_⟩))
    refine wpAny_bind (wpAny_rule (wpAny_bind (wpAny_of_eq (isSame_plain rfl) (wpAny_pure ?_))))
    rw [e]
    exact h
end
section
variable {X : Cx}
def rNeTy : R2 := fun x y H Q => ∃ a b, x = .ty a ∧ y = .ty b ∧ a ∈ tyNames ∧ b ∈ tyNames ∧ Q (.bl (!decide (a = b))) H
theorem op_neTy : OpR X (compareOp .NotEq) rNeTy := by
  intro pins s σ H x y v u Q I rx ry h
  obtain ⟨a, b, rfl, rfl, ha, hb, q⟩ := h
  cases rx
  cases ry
  refine ne_type (meta_of ha) (meta_of hb) ⟨.bl (!decide (a = b)), H, I, ?_, q⟩
  show Value.bool _ = Value.bool _
  congr 2
  by_cases e : a = b
  · subst e; rw [decide_eq_true rfl, beq_self_eq_true]
  · rw [decide_eq_false e, Bool.eq_false_iff]
    intro z
    exact e (Value.type.inj (beq_iff_eq.mp z))
/-! ### sum of a tuple of ints -/
theorem sum_tup_raw {prog : Program} {w : World} {A : Around} {E : Value → Shared → Prop} {s : Shared} {l : Addr} {its : List Value} {ns : List Int} {Q : Value → Shared → Prop} (hh : A.handled = none) (hl : IsTup s.heap l its.toArray) (hi : IntsAre its ns)
    (h : ∀ h' tk t', (∀ b o, s.heap.get? b = some o → h'.get? b = some o) → Q (.int ns.sum t') { s with heap := h', toks := tk }) : wpAny (model prog w) A (call (.builtin "sum") [.ref l]) Q E s := by
  obtain ⟨xs, e⟩ := hi.allInts.items
  have hn : numsOf (intItems xs).toList = ns := by rw [← e]; exact hi.numsOf
  rw [nums_intItems] at hn
  rw [e] at hl
  have hl2 : s.heap.IsTuple l (intItems xs) := hl
  have hlt : l < s.heap.objs.size := by obtain ⟨_, e, _⟩ := hl2; exact Heap.lt_size e
  have hne : l ≠ s.heap.objs.size := Nat.ne_of_lt hlt
  refine call_sum_walkG (wpAny_pyIter_tuple hl2 ?_)
  refine ⟨_, [s.heap.objs.size, l], [s.heap.objs.size], _, _, _, numAt xs, rfl, Walks.tuple (A := A.in1) hh _ l hne (intItems xs), ⟨⟨_, Heap.get?_push_size _ rfl, rfl, rfl⟩, hl2.push _⟩, (fun b hb => ?_), (fun _ _ => intItems_at), fun h' tk t' hk => ?_⟩
  · show b < (s.heap.push _).objs.size
    rw [Heap.size_push]
    rcases List.mem_cons.mp hb with rfl | hb
    · exact Nat.lt_succ_self _
    · rcases List.mem_cons.mp hb with rfl | hb
      · exact Nat.lt_succ_of_lt hlt
      · cases hb
  · have := h h' tk t' (fun b o q => hk b o (by simp only [List.mem_singleton]; exact Nat.ne_of_lt (Heap.lt_size q)) (Heap.get?_push_of_some _ q))
    have e2 : ns.sum = preSum (numAt xs) (intItems xs).size := by
      rw [show (intItems xs).size = xs.size by simp [intItems], preSum_eq, List.take_of_length_le (by simp), hn]
    rw [← e2]
    exact this
def rSumT (K : PySem.W.Frag) : List V → Hp → VK → Prop := fun vs H Q => ∃ (a : Addr) (ns : List Int), vs = [V.ref a] ∧ SqT K H a (ns.map V.int) ∧ Q (.int ns.sum) H
theorem cr_sumT (hc : X.calm = true) : CallR X (.builtin "sum") (rSumT X.K) := by
  intro pins s σ H vs us Q I r h
  obtain ⟨a, ns, rfl, hs, q⟩ := h
  obtain ⟨its, rv, hl, _⟩ := I.tuple hs
  rw [Vals.ref1 r]
  exact sum_tup_raw (I.ok.hd hc) hl rv.ints fun h' tk t' hk => ⟨.int _, H, I.kept hk, ⟨_, rfl⟩, q⟩
end
end Pl

namespace Pl
open PySem PySem.Spec PyProof.Rows L2
/-! ### a def that keeps its promise, found by its name -/
structure Cal (P : Program) (w : World) (K : PySem.W.Frag) (mg : Str → Option Value) (base : Heap) (CX : CXT) (k : Nat) (x : Str) (ps : List Str) (sp : Sp) : Prop where
  ex : ∃ (f : Addr) (fd : FuncData), FnOk P w K mg base CX k f fd ps sp ∧ mg x = some (.ref f) ∧ PySem.W.keepIn K (.ref f) = true ∧ Binds K fd ps []
section
variable {X : Cx} {CX : CXT} {k : Nat} {x : Str} {ps : List Str} {sp : Sp} {e : Expr} {es : List Expr} {t : TA} {p pos : Pos} {W : WX}
theorem pe_f (C : Cal X.prog X.w X.K X.mg X.base CX0 k x ps sp) (hr : Room k X.A) (ha : PA X (e :: es) t) (hg : Gl X x := by rfl) (hdb : (x == ("__debug__" : Str)) = false := by decide)
    (he : starEach (e :: es) X.env = (false, eval e X.env) :: starEach es X.env := by rfl) (hpl : (backTo pos (starEach es X.env)).any (·.1) = false := by rfl) :
    PE X (.Call (.Name x p) (e :: es) [] pos) (tCall sp [] E0 t) := by
  obtain ⟨f, fd, F, hm, hk, hb⟩ := C.ex
  exact pe_call F hr hg hm hk hb .nil pass0 ha hdb he hpl
/-- a def that may raise, W what is wished of that -/
theorem pe_fX (C : Cal X.prog X.w X.K X.mg X.base (L2N.CX X.prog X.w) k x ps sp) (hr : Room k X.A) (tk : L2N.Takes X W) (ha : PA X (e :: es) t) (hg : Gl X x := by rfl) (hdb : (x == ("__debug__" : Str)) = false := by decide)
    (he : starEach (e :: es) X.env = (false, eval e X.env) :: starEach es X.env := by rfl) (hpl : (backTo pos (starEach es X.env)).any (·.1) = false := by rfl) :
    PE X (.Call (.Name x p) (e :: es) [] pos) (tCallS sp (WE W) t) := by
  obtain ⟨f, fd, F, hm, hk, hb⟩ := C.ex
  exact pe_callS F hr hg hm hk hb (fun σ => L2N.passAt tk σ) ha hdb he hpl
end
/-! ### promises over data -/
/-- vs are such data, and what comes back is the data f tells, nothing that stood is changed -/
def PSp (K : PySem.W.Frag) (pre : List PyData → Prop) (f : List PyData → PyData) : Sp := fun vs H Q _ =>
  ∃ ds, DpAll K H vs ds ∧ pre ds ∧ ∀ v H', Same H H' → Dp K H' v (f ds) → Q v H'
end Pl

namespace Pl
open PySem PySem.Spec PyProof.Rows L2
/-! ### whole numbers, plans, texts: what the refusals ask of any data -/
def toI : PyData → Int
  | .int i => i
  | _ => 0
def isWhole (d : PyData) (lo hi : Int) : Bool := match d with
  | .int i => decide (lo ≤ i) && decide (i ≤ hi)
  | _ => false
def areWhole (ds : List PyData) (lo hi : Int) : Bool := ds.all fun d => isWhole d lo hi
def isWholeList (d : PyData) (n : Nat) (lo hi : Int) : Bool := match d with
  | .list ds => decide (ds.length ≤ n) && areWhole ds lo hi
  | _ => false
def isPlan (d : PyData) : Bool := match d with
  | .tuple ds => (match ds with
    | [c, g] => (match c with
      | .tuple cs => decide (2 ≤ cs.length) && decide (cs.length ≤ 8) && areWhole cs 1 1000000 && isWhole g 0 1000000
      | _ => false)
    | _ => false)
  | _ => false
def planD (cs : List Int) (g : Int) : PyData := .tuple [.tuple (cs.map PyData.int), .int g]
/-- a plan's counts and gain -/
structure Plan (cs : List Int) (g : Int) : Prop where
  two : 2 ≤ cs.length
  eight : cs.length ≤ 8
  pos : ∀ c ∈ cs, 1 ≤ c ∧ c ≤ 1000000
  gain : 0 ≤ g ∧ g ≤ 1000000
theorem isWhole_ok {d : PyData} {lo hi : Int} (h : isWhole d lo hi = true) : ∃ i, d = .int i ∧ lo ≤ i ∧ i ≤ hi := by
  cases d with
  | int i =>
    have h2 : (decide (lo ≤ i) && decide (i ≤ hi)) = true := h
    rw [Bool.and_eq_true, decide_eq_true_eq, decide_eq_true_eq] at h2
    exact ⟨i, rfl, h2.1, h2.2⟩
  | _ => cases h
theorem isWhole_int (i lo hi : Int) : isWhole (.int i) lo hi = (decide (lo ≤ i) && decide (i ≤ hi)) := rfl
theorem areWhole_ok {lo hi : Int} : ∀ {ds : List PyData}, areWhole ds lo hi = true → ∃ ns : List Int, ds = ns.map PyData.int ∧ ∀ n ∈ ns, lo ≤ n ∧ n ≤ hi
  | [], _ => ⟨[], rfl, fun n h => by cases h⟩
  | d :: ds, h => by
    have h2 : (isWhole d lo hi && areWhole ds lo hi) = true := h
    rw [Bool.and_eq_true] at h2
    obtain ⟨i, rfl, a, b⟩ := isWhole_ok h2.1
    obtain ⟨ns, rfl, q⟩ := areWhole_ok h2.2
    exact ⟨i :: ns, rfl, fun n hn => by
      rcases List.mem_cons.mp hn with rfl | hn
      · exact ⟨a, b⟩
      · exact q n hn⟩
theorem areWhole_ints {lo hi : Int} : ∀ {ns : List Int}, (∀ n ∈ ns, lo ≤ n ∧ n ≤ hi) → areWhole (ns.map PyData.int) lo hi = true
  | [], _ => rfl
  | n :: ns, h => by
    have h1 := h n List.mem_cons_self
    show (isWhole (.int n) lo hi && areWhole (ns.map PyData.int) lo hi) = true
    rw [areWhole_ints fun m hm => h m (List.mem_cons_of_mem _ hm), isWhole_int, decide_eq_true h1.1, decide_eq_true h1.2]
    rfl
theorem isPlan_ok {d : PyData} (h : isPlan d = true) : ∃ cs g, d = planD cs g ∧ Plan cs g := by
  unfold isPlan at h
  split at h
  · split at h
    · rename_i c g
      split at h
      · rename_i cs
        simp only [Bool.and_eq_true, decide_eq_true_eq] at h
        obtain ⟨⟨⟨h1, h2⟩, h3⟩, h4⟩ := h
        obtain ⟨ns, rfl, hq⟩ := areWhole_ok h3
        obtain ⟨i, rfl, a, b⟩ := isWhole_ok h4
        rw [List.length_map] at h1 h2
        exact ⟨ns, i, rfl, ⟨h1, h2, hq, ⟨a, b⟩⟩⟩
      · cases h
    · cases h
  · cases h
theorem isPlan_of {cs : List Int} {g : Int} (h : Plan cs g) : isPlan (planD cs g) = true := by
  show (decide (2 ≤ (cs.map PyData.int).length) && decide ((cs.map PyData.int).length ≤ 8) && areWhole (cs.map PyData.int) 1 1000000 && isWhole (.int g) 0 1000000) = true
  rw [areWhole_ints h.pos, isWhole_int, List.length_map, decide_eq_true h.two, decide_eq_true h.eight, decide_eq_true h.gain.1, decide_eq_true h.gain.2]
  rfl
def countsOf (d : PyData) : List Int := match d with
  | .tuple [.tuple cs, _] => cs.map toI
  | _ => []
def itemsOf (d : PyData) : List Int := match d with
  | .list xs => xs.map toI
  | _ => []
def gainOf (d : PyData) : Int := match d with
  | .tuple [_, g] => toI g
  | _ => 0
theorem toI_map (ns : List Int) : (ns.map PyData.int).map toI = ns := by
  rw [List.map_map]
  exact List.map_id'' (fun _ => rfl) ns
theorem counts_planD (cs : List Int) (g : Int) : countsOf (planD cs g) = cs := toI_map cs
theorem gain_planD (cs : List Int) (g : Int) : gainOf (planD cs g) = g := rfl
/-- a text of a plan of n counts -/
def Text (n : Nat) (ss : List Int) : Prop := ss.length ≤ 60 ∧ ∀ s ∈ ss, 0 ≤ s ∧ s ≤ (n : Int) - 1
theorem isText_ok {d : PyData} {n : Nat} (h : isWholeList d 60 0 ((n : Int) - 1) = true) : ∃ ss : List Int, d = .list (ss.map PyData.int) ∧ Text n ss := by
  cases d with
  | list ds =>
    have h2 : (decide (ds.length ≤ 60) && areWhole ds 0 ((n : Int) - 1)) = true := h
    rw [Bool.and_eq_true, decide_eq_true_eq] at h2
    obtain ⟨ns, rfl, q⟩ := areWhole_ok h2.2
    refine ⟨ns, rfl, ?_, q⟩
    simpa using h2.1
  | _ => cases h
theorem isText_of {ss : List Int} {n : Nat} (h : Text n ss) : isWholeList (.list (ss.map PyData.int)) 60 0 ((n : Int) - 1) = true := by
  show (decide ((ss.map PyData.int).length ≤ 60) && areWhole (ss.map PyData.int) 0 ((n : Int) - 1)) = true
  rw [areWhole_ints h.2, List.length_map, decide_eq_true h.1]
  rfl
/-! ### shares, the plan behind a sign -/
def nth (cs : List Int) (s : Int) : Int := cs.getD s.toNat 0
def belowOf (cs : List Int) (s : Int) : Int := (cs.take s.toNat).sum
def grown (cs : List Int) (g s : Int) : List Int := cs.set s.toNat (min (nth cs s + g) 1000000)
theorem grown_len (cs : List Int) (g s : Int) : (grown cs g s).length = cs.length := List.length_set ..
theorem nth_mem {cs : List Int} {s : Int} (h0 : 0 ≤ s) (h1 : s < cs.length) : nth cs s ∈ cs := by
  have h : s.toNat < cs.length := by omega
  unfold nth
  rw [List.getD_eq_getElem?_getD, List.getElem?_eq_getElem h]
  exact List.getElem_mem h
theorem Plan.nth {cs : List Int} {g s : Int} (h : Plan cs g) (h0 : 0 ≤ s) (h1 : s < cs.length) : 1 ≤ nth cs s ∧ nth cs s ≤ 1000000 := h.pos _ (nth_mem h0 h1)
theorem Plan.grown {cs : List Int} {g s : Int} (h : Plan cs g) (h0 : 0 ≤ s) (h1 : s < cs.length) : Plan (grown cs g s) g := by
  refine ⟨by rw [grown_len]; exact h.two, by rw [grown_len]; exact h.eight, fun c hc => ?_, h.gain⟩
  rcases List.mem_or_eq_of_mem_set hc with hc | rfl
  · exact h.pos c hc
  · have := h.nth h0 h1
    have := h.gain
    omega
/-! ### errors, promises that may raise -/
inductive Err where
  | plan | sign | count | figures | ended
  deriving DecidableEq
def errN : Err → Str
  | .plan => "BadPlan"
  | .sign => "BadSign"
  | .count => "BadCount"
  | .figures => "BadFigures"
  | .ended => "Ended"
def errC (K : PySem.W.Frag) (e : Err) : Addr := He.ga K (errN e)
/-- what is told of an own error class of the top -/
structure Exn (K : PySem.W.Frag) (mg : Str → Option Value) (e : Err) : Prop where
  x : PySem.W.excIn K (errC K e) He.veBase "ValueError.__new__" = true
  g : mg (errN e) = some (.ref (errC K e))
  k : PySem.W.keepIn K (.ref (errC K e)) = true
  b : PySem.W.subIn K (.ref (errC K e)) (.type "BaseException") = some true
  t : PySem.W.typeIn K (.ref (errC K e)) = some (.type "type")
/-- may raise: f tells what comes back of such data, or which error -/
def PSpX (K : PySem.W.Frag) (n : Nat) (f : List PyData → Except Err PyData) : Sp := fun vs H Q E =>
  ∃ ds, DpAll K H vs ds ∧ ds.length = n ∧ (∀ d, f ds = .ok d → ∀ v H', Same H H' → Dp K H' v d → Q v H') ∧ (∀ e, f ds = .error e → ∀ H', Same H H' → E (.ref (errC K e)) none H')
/-- a statement's end, where the reading stops -/
def Hold (u : TS) : TS := u
theorem pss_hold {X : Cx} {st : Stmt} {rest : List Stmt} {t u : TS} (h1 : PS X st t) (h2 : PSs X rest u) : PSs X (st :: rest) (tSeq t (Hold u)) := pss_cons h1 h2
theorem cmul_l {i j : Int} (h : -(2 ^ 64) < i ∧ i < 2 ^ 64) : CMul i j := .inl h
theorem cmul_r {i j : Int} (h : -(2 ^ 64) < j ∧ j < 2 ^ 64) : CMul i j := .inr h
theorem hu2_of {A : Around} {k : Nat} (hr : Room k A) : A.units + 64 < cLine := Nat.lt_of_le_of_lt (by omega) hr.un
end Pl

namespace Pl
open PySem PySem.Spec PyProof.Rows L2

/-- all but D -/
def erase (D : Addr) (H : Hp) : Hp := fun a => if a = D then none else H a
theorem erase_same (D : Addr) (H : Hp) : Same (erase D H) H := fun b o e => by
  unfold erase at e
  split at e
  · cases e
  · exact e
theorem erase_at {D a : Addr} {H : Hp} (h : a ≠ D) : erase D H a = H a := if_neg h
theorem erase_self {D : Addr} {H : Hp} : erase D H D = none := if_pos rfl
theorem erase_upd {D : Addr} {H : Hp} {o : HO} : erase D (upd H D o) = erase D H := funext fun a => by
  unfold erase
  split
  · rfl
  · rename_i h; exact upd_ne h
theorem same_erase {D : Addr} {H H' : Hp} (s : Same H H') (h : H D = none) : Same H (erase D H') := fun b o e => by
  rw [erase_at (ne_of_none e h)]
  exact s b o e
theorem erase_mono {D : Addr} {H H' : Hp} (s : Same H H') : Same (erase D H) (erase D H') := fun b o e => by
  unfold erase at e ⊢
  split at e
  · cases e
  · rename_i h; rw [if_neg h]; exact s b o e
theorem same_noerase {D : Addr} {H H' : Hp} (s : Same H (erase D H')) : Same H H' := s.trans (erase_same D H')

theorem lc_dpL {K : PySem.W.Frag} {a : Addr} {xs : List V} {tl : TE} {j : Nat} {σ : L2.St} {H : Hp} {Q : VK} {te : TE} {tt : TT} (keep : Nat → Bool) (g : Nat → PyData) (hi : ∀ R : VK, R (.ref a) H → tl σ H R) (hs : SqL K H a xs) (hz : xs.length ≤ 100000)
    (ht : ∀ n x H' (R : Bool → Hp → Prop), xs[n]? = some x → Same H H' → (∀ H'', Same H' H'' → R (keep n) H'') → tt ((wipe σ [j]).set j (some x)) H' R)
    (he : ∀ n x H' D (R : VK), xs[n]? = some x → keep n = true → H D = none → (∃ acc, H' D = some (.lst acc)) → Same H H' → (∀ y H'', Same H' H'' → Dp K (erase D H'') y (g n) → R y H'') → te ((wipe σ [j]).set j (some x)) H' R)
    (hd : ∀ D acc H', H D = none → Same H H' → H' D = some (.lst acc) → DpAll K H' acc (((List.range xs.length).filter keep).map g) → Q (.ref D) H') :
    tLc (iList K tl) (gName j) tt te [j] σ H Q := by
  have hw : ∀ x, wipe ((wipe σ [j]).set j (some x)) [j] = wipe σ [j] := fun x => by
    show ((σ.set j none).set j (some x)).set j none = σ.set j none
    rw [List.set_set, List.set_set]
  show tl σ H _
  refine hi _ ⟨a, rfl, ⟨xs, hs⟩, ?_⟩
  intro D hD
  refine L2.lc_list (K := K) (a := a) (xs := xs) (fun i H' => ∃ acc, H' D = some (.lst acc) ∧ Same H (erase D H') ∧ acc.length ≤ i ∧ DpAll K (erase D H') acc (((List.range i).filter keep).map g)) ?_ (fun i H' _ ⟨acc, _, sm, _⟩ => (same_noerase sm).seq hs) ?_ ?_
  · refine ⟨[], upd_same, same_erase (same_upd hD) hD, Nat.le_refl _, .nil⟩
  · rintro n x H' hi2 ⟨acc, e, sm, hlen, dp⟩
    show wipe ((wipe σ [j]).set j (some x)) [j] = wipe σ [j] ∧ tt _ _ _
    refine ⟨hw _, ht n x H' _ hi2 (same_noerase sm) fun H2 s2 => ?_⟩
    have e2 := s2 D _ e
    have sm2 : Same H (erase D H2) := sm.trans (erase_mono s2)
    have dp2 := dpa_same (erase_mono (D := D) s2) _ _ dp
    cases kp : keep n with
    | false =>
      refine iteF ⟨acc, e2, sm2, Nat.le_succ_of_le hlen, ?_⟩
      rw [List.range_succ, List.filter_append, List.filter_cons, kp]
      simpa using dp2
    | true =>
      refine iteT ?_
      refine he n x H2 D _ hi2 kp hD ⟨acc, e2⟩ (same_noerase sm2) fun y H3 s3 hy => ?_
      have e3 := s3 D _ e2
      refine ⟨acc, e3, Nat.lt_of_le_of_lt hlen (Nat.lt_of_lt_of_le (show n < 100001 by have := (List.getElem?_eq_some_iff.mp hi2).1; omega) (by decide)), acc ++ [y], upd_same, ?_, ?_, ?_⟩
      · rw [erase_upd]
        exact sm2.trans (erase_mono s3)
      · rw [List.length_append]
        exact Nat.succ_le_succ hlen
      · rw [erase_upd, List.range_succ, List.filter_append, List.filter_cons, kp, List.map_append]
        exact dpa_app (dpa_same (erase_mono s3) _ _ dp2) (.cons hy .nil)
  · rintro H' ⟨acc, e, sm, hlen, dp⟩
    exact hd D acc H' hD (same_noerase sm) e (dpa_same (erase_same D H') _ _ dp)

theorem lc_dpT {K : PySem.W.Frag} {a : Addr} {xs : List V} {tl : TE} {j : Nat} {σ : L2.St} {H : Hp} {Q : VK} {te : TE} {tt : TT} (keep : Nat → Bool) (g : Nat → PyData) (hi : ∀ R : VK, R (.ref a) H → tl σ H R) (hs : SqT K H a xs) (hz : xs.length ≤ 100000)
    (ht : ∀ n x H' (R : Bool → Hp → Prop), xs[n]? = some x → Same H H' → (∀ H'', Same H' H'' → R (keep n) H'') → tt ((wipe σ [j]).set j (some x)) H' R)
    (he : ∀ n x H' D (R : VK), xs[n]? = some x → keep n = true → H D = none → (∃ acc, H' D = some (.lst acc)) → Same H H' → (∀ y H'', Same H' H'' → Dp K (erase D H'') y (g n) → R y H'') → te ((wipe σ [j]).set j (some x)) H' R)
    (hd : ∀ D acc H', H D = none → Same H H' → H' D = some (.lst acc) → DpAll K H' acc (((List.range xs.length).filter keep).map g) → Q (.ref D) H') :
    tLc (iTup K tl) (gName j) tt te [j] σ H Q := by
  have hw : ∀ x, wipe ((wipe σ [j]).set j (some x)) [j] = wipe σ [j] := fun x => by
    show ((σ.set j none).set j (some x)).set j none = σ.set j none
    rw [List.set_set, List.set_set]
  show tl σ H _
  refine hi _ ⟨a, rfl, ⟨xs, hs⟩, ?_⟩
  intro D hD
  refine L2.lc_tup (K := K) (a := a) (xs := xs) (fun i H' => ∃ acc, H' D = some (.lst acc) ∧ Same H (erase D H') ∧ acc.length ≤ i ∧ DpAll K (erase D H') acc (((List.range i).filter keep).map g)) ?_ (fun i H' _ ⟨acc, _, sm, _⟩ => same_t (same_noerase sm) hs) ?_ ?_
  · refine ⟨[], upd_same, same_erase (same_upd hD) hD, Nat.le_refl _, .nil⟩
  · rintro n x H' hi2 ⟨acc, e, sm, hlen, dp⟩
    show wipe ((wipe σ [j]).set j (some x)) [j] = wipe σ [j] ∧ tt _ _ _
    refine ⟨hw _, ht n x H' _ hi2 (same_noerase sm) fun H2 s2 => ?_⟩
    have e2 := s2 D _ e
    have sm2 : Same H (erase D H2) := sm.trans (erase_mono s2)
    have dp2 := dpa_same (erase_mono (D := D) s2) _ _ dp
    cases kp : keep n with
    | false =>
      refine iteF ⟨acc, e2, sm2, Nat.le_succ_of_le hlen, ?_⟩
      rw [List.range_succ, List.filter_append, List.filter_cons, kp]
      simpa using dp2
    | true =>
      refine iteT ?_
      refine he n x H2 D _ hi2 kp hD ⟨acc, e2⟩ (same_noerase sm2) fun y H3 s3 hy => ?_
      have e3 := s3 D _ e2
      refine ⟨acc, e3, Nat.lt_of_le_of_lt hlen (Nat.lt_of_lt_of_le (show n < 100001 by have := (List.getElem?_eq_some_iff.mp hi2).1; omega) (by decide)), acc ++ [y], upd_same, ?_, ?_, ?_⟩
      · rw [erase_upd]
        exact sm2.trans (erase_mono s3)
      · rw [List.length_append]
        exact Nat.succ_le_succ hlen
      · rw [erase_upd, List.range_succ, List.filter_append, List.filter_cons, kp, List.map_append]
        exact dpa_app (dpa_same (erase_mono s3) _ _ dp2) (.cons hy .nil)
  · rintro H' ⟨acc, e, sm, hlen, dp⟩
    exact hd D acc H' hD (same_noerase sm) e (dpa_same (erase_same D H') _ _ dp)

theorem lc_dpR {K : PySem.W.Frag} {m : Nat} {ta : TA} {j : Nat} {σ : L2.St} {H : Hp} {Q : VK} {te : TE} {tt : TT} (keep : Nat → Bool) (g : Nat → PyData) (hi : ∀ R : List V → Hp → Prop, R [.int (m : Int)] H → ta σ H R) (hz : m ≤ 100000)
    (ht : ∀ n H' (R : Bool → Hp → Prop), n < m → Same H H' → (∀ H'', Same H' H'' → R (keep n) H'') → tt ((wipe σ [j]).set j (some (.int (n : Int)))) H' R)
    (he : ∀ n H' D (R : VK), n < m → keep n = true → H D = none → (∃ acc, H' D = some (.lst acc)) → Same H H' → (∀ y H'', Same H' H'' → Dp K (erase D H'') y (g n) → R y H'') → te ((wipe σ [j]).set j (some (.int (n : Int)))) H' R)
    (hd : ∀ D acc H', H D = none → Same H H' → H' D = some (.lst acc) → DpAll K H' acc (((List.range m).filter keep).map g) → Q (.ref D) H') :
    tLc (iRng1 ta) (gName j) tt te [j] σ H Q := by
  have hw : ∀ x, wipe ((wipe σ [j]).set j (some x)) [j] = wipe σ [j] := fun x => by
    show ((σ.set j none).set j (some x)).set j none = σ.set j none
    rw [List.set_set, List.set_set]
  show ta σ H _
  refine hi _ ⟨(m : Int), rfl, by omega, by omega, ?_⟩
  rw [Int.toNat_natCast]
  intro D hD
  refine L2.lc_range (lo := 0) (n := m) (fun i H' => ∃ acc, H' D = some (.lst acc) ∧ Same H (erase D H') ∧ acc.length ≤ i ∧ DpAll K (erase D H') acc (((List.range i).filter keep).map g)) ?_  ?_ ?_
  · refine ⟨[], upd_same, same_erase (same_upd hD) hD, Nat.le_refl _, .nil⟩
  · rintro n H' hi2 ⟨acc, e, sm, hlen, dp⟩
    rw [Int.zero_add]
    show wipe ((wipe σ [j]).set j (some (.int (n : Int)))) [j] = wipe σ [j] ∧ tt _ _ _
    refine ⟨hw _, ht n  H' _ hi2 (same_noerase sm) fun H2 s2 => ?_⟩
    have e2 := s2 D _ e
    have sm2 : Same H (erase D H2) := sm.trans (erase_mono s2)
    have dp2 := dpa_same (erase_mono (D := D) s2) _ _ dp
    cases kp : keep n with
    | false =>
      refine iteF ⟨acc, e2, sm2, Nat.le_succ_of_le hlen, ?_⟩
      rw [List.range_succ, List.filter_append, List.filter_cons, kp]
      simpa using dp2
    | true =>
      refine iteT ?_
      refine he n  H2 D _ hi2 kp hD ⟨acc, e2⟩ (same_noerase sm2) fun y H3 s3 hy => ?_
      have e3 := s3 D _ e2
      refine ⟨acc, e3, Nat.lt_of_le_of_lt hlen (Nat.lt_of_lt_of_le (show n < 100001 by omega) (by decide)), acc ++ [y], upd_same, ?_, ?_, ?_⟩
      · rw [erase_upd]
        exact sm2.trans (erase_mono s3)
      · rw [List.length_append]
        exact Nat.succ_le_succ hlen
      · rw [erase_upd, List.range_succ, List.filter_append, List.filter_cons, kp, List.map_append]
        exact dpa_app (dpa_same (erase_mono s3) _ _ dp2) (.cons hy .nil)
  · rintro H' ⟨acc, e, sm, hlen, dp⟩
    exact hd D acc H' hD (same_noerase sm) e (dpa_same (erase_same D H') _ _ dp)
theorem filter_yes {α : Type} (l : List α) : l.filter (fun _ => true) = l := List.filter_eq_self.mpr fun _ _ => rfl
theorem yes_t {σ : L2.St} {H : Hp} {R : Bool → Hp → Prop} (k : ∀ H'', Same H H'' → R true H'') : tYes σ H R := k H (Same.refl H)
theorem range_get {α β : Type} (l : List α) (f : α → β) (d : α) : (List.range l.length).map (fun n => f (l.getD n d)) = l.map f := by
  refine List.ext_getElem? fun i => ?_
  rw [List.getElem?_map, List.getElem?_map]
  by_cases h : i < l.length
  · rw [List.getElem?_range h, List.getElem?_eq_getElem h]
    simp [List.getD_eq_getElem?_getD, List.getElem?_eq_getElem h]
  · rw [List.getElem?_eq_none (by simpa using h), List.getElem?_eq_none (by simpa using h)]
    rfl
theorem getD_of {α : Type} {l : List α} {n : Nat} {x d : α} (h : l[n]? = some x) : l.getD n d = x := by
  rw [List.getD_eq_getElem?_getD, h]; rfl
theorem dpa_bools {K : PySem.W.Frag} {H : Hp} : ∀ {vs : List V} {bs : List Bool}, DpAll K H vs (bs.map PyData.bool) → vs = bs.map V.bl
  | _, [], h => by cases h; rfl
  | _, b :: r, h => by
    cases h with
    | cons h1 h2 => cases h1; rw [dpa_bools h2]; rfl
theorem dpa_get2 {K : PySem.W.Frag} {H : Hp} {vs : List V} {ds : List PyData} {i : Nat} {v : V} (h : DpAll K H vs ds) (e : vs[i]? = some v) : ∃ d, ds[i]? = some d ∧ Dp K H v d := by
  have hl := dpa_len h
  obtain ⟨hi, _⟩ := List.getElem?_eq_some_iff.mp e
  have hd : ds[i]? = some (ds[i]'(by omega)) := List.getElem?_eq_getElem (by omega)
  obtain ⟨v', e', hv⟩ := dpa_get h hd
  rw [e] at e'
  cases e'
  exact ⟨_, hd, hv⟩
/-- a plan as it stands in the heap -/
theorem plan_at {K : PySem.W.Frag} {H : Hp} {v : V} {cs : List Int} {g : Int} (h : Dp K H v (planD cs g)) : ∃ a c, v = .ref a ∧ SqT K H a [.ref c, .int g] ∧ SqT K H c (cs.map V.int) := by
  cases h with
  | tup hs ha =>
    cases ha with
    | cons h1 h2 =>
      cases h2 with
      | cons h2 h3 =>
        cases h3
        cases dp_int h2
        cases h1 with
        | tup hc hcs =>
          rw [dpa_ints_eq hcs] at hc
          exact ⟨_, _, rfl, hs, hc⟩
theorem plan_dp {K : PySem.W.Frag} {H : Hp} {a c : Addr} {cs : List Int} {g : Int} (h1 : SqT K H a [.ref c, .int g]) (h2 : SqT K H c (cs.map V.int)) : Dp K H (.ref a) (planD cs g) :=
  .tup h1 (.cons (.tup h2 (dpa_ints cs)) (.cons (.int g) .nil))
theorem at_nth {cs : List Int} {s : Int} (h0 : 0 ≤ s) (h1 : s < cs.length) : atI (cs.map V.int) s = some (.int (nth cs s)) := by
  refine at_of (j := s.toNat) (by omega) ?_
  have h : s.toNat < cs.length := by omega
  unfold nth
  rw [List.getElem?_map, List.getElem?_eq_getElem h, List.getD_eq_getElem?_getD, List.getElem?_eq_getElem h]
  rfl
/-! ### slices of tuples -/
theorem cut_take {xs : List V} {s : Int} (h0 : 0 ≤ s) (h1 : s ≤ xs.length) : cutV xs none (some s) = xs.take s.toNat := by
  unfold cutV
  obtain ⟨n, rfl⟩ := Int.eq_ofNat_of_zero_le h0
  rw [HT.sIx_none, HT.sIx_nat, Int.toNat_natCast]
  have : n ≤ xs.length := by omega
  rw [Nat.min_eq_left this, Nat.sub_zero, List.drop_zero]
theorem cut_drop {xs : List V} {s : Int} (h0 : 0 ≤ s) (h1 : s ≤ xs.length) : cutV xs (some s) none = xs.drop s.toNat := by
  unfold cutV
  obtain ⟨n, rfl⟩ := Int.eq_ofNat_of_zero_le h0
  rw [HT.sIx_none, HT.sIx_nat, Int.toNat_natCast]
  have : n ≤ xs.length := by omega
  rw [Nat.min_eq_left this]
  exact List.take_of_length_le (by rw [List.length_drop]; exact Nat.le_refl _)
theorem slT_take {K : PySem.W.Frag} {H : Hp} {a : Addr} {xs : List V} {s : Int} {Q : VK} (hs : SqT K H a xs) (h0 : 0 ≤ s) (h1 : s ≤ xs.length) (k : ∀ p H', Same H H' → SqT K H' p (xs.take s.toNat) → Q (.ref p) H') : rSlA K (.ref a) none (some s) H Q := by
  refine ⟨a, xs, rfl, hs, fun hw => ?_, fun hw p hp => ?_⟩
  · refine k a H (Same.refl _) ?_
    have e : s.toNat = xs.length := by
      have := hw.2
      obtain ⟨n, rfl⟩ := Int.eq_ofNat_of_zero_le h0
      rw [HT.sIx_nat] at this
      rw [Int.toNat_natCast]
      omega
    rw [e, List.take_length]
    exact hs
  · rw [cut_take h0 h1]
    exact k p _ (same_upd hp) (.inl (.inl upd_same))
theorem slT_drop {K : PySem.W.Frag} {H : Hp} {a : Addr} {xs : List V} {s : Int} {Q : VK} (hs : SqT K H a xs) (h0 : 0 ≤ s) (h1 : s ≤ xs.length) (k : ∀ p H', Same H H' → SqT K H' p (xs.drop s.toNat) → Q (.ref p) H') : rSlA K (.ref a) (some s) none H Q := by
  refine ⟨a, xs, rfl, hs, fun hw => ?_, fun hw p hp => ?_⟩
  · refine k a H (Same.refl _) ?_
    have e : s.toNat = 0 := by
      have := hw.1
      obtain ⟨n, rfl⟩ := Int.eq_ofNat_of_zero_le h0
      rw [HT.sIx_nat] at this
      rw [Int.toNat_natCast]
      omega
    rw [e, List.drop_zero]
    exact hs
  · rw [cut_drop h0 h1]
    exact k p _ (same_upd hp) (.inl (.inl upd_same))
theorem catT {K : PySem.W.Frag} {H : Hp} {a b : Addr} {xs ys : List V} {Q : VK} (ha : SqT K H a xs) (hb : SqT K H b ys) (hz : xs.length + ys.length ≤ 100000) (k : ∀ p H', Same H H' → SqT K H' p (xs ++ ys) → Q (.ref p) H') : rCatA K (.ref a) (.ref b) H Q := by
  refine ⟨a, b, xs, ys, rfl, rfl, ha, hb, Nat.le_trans hz (by decide), fun e => ?_, fun _ e => ?_, fun _ _ p hp => ?_⟩
  · subst e; exact k b H (Same.refl _) hb
  · subst e; rw [List.append_nil] at k; exact k a H (Same.refl _) ha
  · exact k p _ (same_upd hp) (.inl (.inl upd_same))
/-! ### isinstance of data -/
def isD (d : PyData) (U : String) : Bool := tyName d == U || (tyName d == "bool" && U == "int")
theorem dp_tyx {K : PySem.W.Frag} {H : Hp} {x : V} {d : PyData} (h : Dp K H x d) : TyX K H x (.type (tyName d)) := by
  cases h with
  | non => exact .base .non
  | bl b => exact .base (.bl b)
  | int i => exact .base (.int i)
  | str z => exact .base (.str z)
  | lst hs _ =>
    rcases hs with (h | ⟨o, h⟩) | ⟨o, its, n, hk, hc, _⟩
    · exact .base (.lst h)
    · exact .base (.frz h)
    · exact .kList hk hc
  | tup hs _ =>
    rcases hs with (h | ⟨o, h⟩) | ⟨o, its, n, hk, hc, _⟩
    · exact .base (.tup h)
    · exact .fTuple h
    · exact .kTuple hk hc
theorem kit_names : ∀ a ∈ ["NoneType", "bool", "int", "str", "list", "tuple"], ∀ b ∈ ["int", "bool", "tuple", "list"], kitB a b = some (a == b || (a == "bool" && b == "int")) := by decide +kernel
def rIsD (K : PySem.W.Frag) : List V → Hp → VK → Prop := fun xs H Q => ∃ (x : V) (d : PyData) (U : String), xs = [x, .ty U] ∧ Dp K H x d ∧ U ∈ ["int", "bool", "tuple", "list"] ∧ Q (.bl (isD d U)) H
theorem call_isD {X : Cx} : CallR X (.builtin "isinstance") (rIsD X.K) := by
  intro pins s σ H xs us Q I r h
  obtain ⟨x, d, U, rfl, hd, hU, q⟩ := h
  refine call_isi pins s σ H _ us Q I r ⟨x, .ty U, _, _, _, rfl, .ty U, dp_tyx hd, kit_ty (kit_names _ ?_ U hU), q⟩
  cases hd <;> simp [tyName]
/-! ### the laws' own numbers -/
def cellAt (ns : List Int) (k : Nat) : Int := match ns[k]? with
  | some x => x + x % 251 * 381840
  | none => 0
def mixed (c k : Int) : Int := (c * (48271 + 7919 * k * k + 104729 * k) + 7919 * k + 12345) % 2147483647
theorem mixed_nn (c k : Int) : 0 ≤ mixed c k := Int.emod_nonneg _ (by decide)
def mostOf (c : Int) : Int := [3, 9, 1000, 1000000].getD (c / 7 % 4).toNat 3
def counts0 (c : Int) : List Int := (List.range (2 + c % 7).toNat).map fun (k : Nat) => 1 + mixed (c / 112) (k : Int) % mostOf c
def planCs (c : Int) : List Int := if c / 28 % 4 = 3 then (counts0 c).set (c / 112 % ((counts0 c).length : Int)).toNat (1000000 - c / 300 % 3) else counts0 c
def planG (c : Int) : Int := [0, 1, 7, c / 112 % 1000001].getD (c / 28 % 4).toNat 0
theorem mod4 (x : Int) : x % 4 = 0 ∨ x % 4 = 1 ∨ x % 4 = 2 ∨ x % 4 = 3 := by omega
theorem mostOf_ok (c : Int) : 3 ≤ mostOf c ∧ mostOf c ≤ 1000000 := by
  unfold mostOf
  rcases mod4 (c / 7) with h | h | h | h <;> rw [h] <;> decide
theorem planG_ok (c : Int) : 0 ≤ planG c ∧ planG c ≤ 1000000 := by
  unfold planG
  have h1 : 0 ≤ c / 112 % 1000001 := Int.emod_nonneg _ (by decide)
  have h2 : c / 112 % 1000001 < 1000001 := Int.emod_lt_of_pos _ (by decide)
  rcases mod4 (c / 28) with h | h | h | h <;> rw [h]
  · exact (by decide : (0 : Int) ≤ 0 ∧ (0 : Int) ≤ 1000000)
  · exact (by decide : (0 : Int) ≤ 1 ∧ (1 : Int) ≤ 1000000)
  · exact (by decide : (0 : Int) ≤ 7 ∧ (7 : Int) ≤ 1000000)
  · show 0 ≤ c / 112 % 1000001 ∧ c / 112 % 1000001 ≤ 1000000
    omega
theorem counts0_len (c : Int) : (counts0 c).length = (2 + c % 7).toNat := by
  unfold counts0
  rw [List.length_map, List.length_range]
theorem counts0_ok (c : Int) : ∀ x ∈ counts0 c, 1 ≤ x ∧ x ≤ 1000000 := fun x hx => by
  obtain ⟨k, _, rfl⟩ := List.mem_map.mp hx
  have := mostOf_ok c
  have h1 : 0 ≤ mixed (c / 112) k % mostOf c := Int.emod_nonneg _ (by omega)
  have h2 : mixed (c / 112) k % mostOf c < mostOf c := Int.emod_lt_of_pos _ (by omega)
  omega
theorem planCs_len (c : Int) : (planCs c).length = (2 + c % 7).toNat := by
  unfold planCs
  split
  · rw [List.length_set, counts0_len]
  · exact counts0_len c
theorem plan_ok (c : Int) : Plan (planCs c) (planG c) := by
  refine ⟨by rw [planCs_len]; omega, by rw [planCs_len]; omega, fun x hx => ?_, planG_ok c⟩
  unfold planCs at hx
  split at hx
  · rcases List.mem_or_eq_of_mem_set hx with hx | rfl
    · exact counts0_ok c x hx
    · omega
  · exact counts0_ok c x hx
def signAt (c : Int) (n : Nat) (k : Nat) : Int :=
  if c / 61 % 4 = 2 ∧ (k : Int) % 4 < 3 then 0 else if c / 61 % 4 = 1 then c / 244 % (n : Int) else mixed (c / 244) k % (n : Int)
def signsOf (c : Int) (n : Nat) (most : Int) : List Int := (List.range (c % (most + 1)).toNat).map (signAt c n)
theorem signAt_ok {c : Int} {n k : Nat} (h : 0 < n) : 0 ≤ signAt c n k ∧ signAt c n k < n := by
  unfold signAt
  have h1 : 0 ≤ c / 244 % (n : Int) := Int.emod_nonneg _ (by omega)
  have h2 : c / 244 % (n : Int) < n := Int.emod_lt_of_pos _ (by omega)
  have h3 : 0 ≤ mixed (c / 244) k % (n : Int) := Int.emod_nonneg _ (by omega)
  have h4 : mixed (c / 244) k % (n : Int) < n := Int.emod_lt_of_pos _ (by omega)
  split
  · omega
  · split <;> omega
theorem signsOf_ok {c : Int} {n : Nat} {most : Int} (h : 0 < n) : ∀ s ∈ signsOf c n most, 0 ≤ s ∧ s < n := fun s hs => by
  obtain ⟨k, _, rfl⟩ := List.mem_map.mp hs
  exact signAt_ok h
theorem signsOf_len {c : Int} {n : Nat} {most : Int} (h : 0 ≤ most) : (signsOf c n most).length ≤ most.toNat := by
  unfold signsOf
  rw [List.length_map, List.length_range]
  have h2 : c % (most + 1) < most + 1 := Int.emod_lt_of_pos _ (by omega)
  omega
/-! ### a tuple is not the list that is being made -/
theorem sqt_erase {K : PySem.W.Frag} {D a : Addr} {H : Hp} {xs : List V} (hD : ∃ acc, H D = some (.lst acc)) (h : SqT K H a xs) : SqT K (erase D H) a xs := by
  obtain ⟨acc, e⟩ := hD
  rcases h with (h | ⟨o, h⟩) | h
  · exact .inl (.inl (by rw [erase_at (fun z => by rw [z, e] at h; cases h)]; exact h))
  · exact .inl (.inr ⟨o, by rw [erase_at (fun z => by rw [z, e] at h; cases h)]; exact h⟩)
  · exact .inr h
theorem dpa_map {K : PySem.W.Frag} {H : Hp} {α : Type} (f : α → V) (g : α → PyData) (h : ∀ x, Dp K H (f x) (g x)) : ∀ l : List α, DpAll K H (l.map f) (l.map g)
  | [] => .nil
  | x :: r => .cons (h x) (dpa_map f g h r)
theorem areWhole_mem {ds : List PyData} {lo hi : Int} {d : PyData} (hd : d ∈ ds) (h : isWhole d lo hi = false) : areWhole ds lo hi = false := by
  rw [Bool.eq_false_iff]
  intro z
  have := List.all_eq_true.mp z d hd
  rw [h] at this
  cases this
/-- a count is none -/
theorem noplan_count {cs : List PyData} {g d : PyData} (hd : d ∈ cs) (h : isWhole d 1 1000000 = false) : isPlan (.tuple [.tuple cs, g]) = false := by
  show (decide (2 ≤ cs.length) && decide (cs.length ≤ 8) && areWhole cs 1 1000000 && isWhole g 0 1000000) = false
  rw [areWhole_mem hd h, Bool.and_false]
  rfl
theorem noplan_gain {cs : List PyData} {g : PyData} (h : isWhole g 0 1000000 = false) : isPlan (.tuple [.tuple cs, g]) = false := by
  show (decide (2 ≤ cs.length) && decide (cs.length ≤ 8) && areWhole cs 1 1000000 && isWhole g 0 1000000) = false
  rw [h, Bool.and_false]
theorem isWhole_out {i lo hi : Int} (h : i < lo ∨ hi < i) : isWhole (.int i) lo hi = false := by
  rw [isWhole_int]
  rcases h with h | h
  · rw [decide_eq_false (by omega : ¬ lo ≤ i)]
    rfl
  · rw [decide_eq_false (by omega : ¬ i ≤ hi), Bool.and_false]
theorem at_dp {K : PySem.W.Frag} {H : Hp} {vs : List V} {ds : List PyData} {k : Int} (h : DpAll K H vs ds) (h0 : 0 ≤ k) (h1 : k < ds.length) : ∃ v d, atI vs k = some v ∧ d ∈ ds ∧ ds[k.toNat]? = some d ∧ Dp K H v d := by
  have hk : k.toNat < ds.length := by omega
  have e : ds[k.toNat]? = some ds[k.toNat] := List.getElem?_eq_getElem hk
  obtain ⟨v, ev, hv⟩ := dpa_get h e
  exact ⟨v, _, at_of (j := k.toNat) (by omega) ev, List.getElem_mem hk, e, hv⟩
/-! ### the same rules, the written part by its own letter (within a comprehension it must be so) -/
section
variable {X : Cx} {K : PySem.W.Frag}
theorem sl_tupK (h : X.K = K) : SlR X (rSlA K) := by subst h; exact sl_tupA
theorem sl_listK (h : X.K = K) : SlR X (rSlL K) := by subst h; exact sl_list
theorem ix_tupK (h : X.K = K) : IxR X (rIxT K) := by subst h; exact ix_tup
theorem ix_listK (h : X.K = K) : IxR X (rIxL K) := by subst h; exact ix_list
theorem op_catK (h : X.K = K) : OpR X (binaryOp .Add) (rCatA K) := by subst h; exact op_catA
theorem op_repTK (h : X.K = K) : OpR X (binaryOp .Mult) (rRepT K) := by subst h; exact op_repT
theorem op_eqDK (h : X.K = K) (hu : X.A.units + 64 < cLine) : OpR X (compareOp .Eq) (rEqD K) := by subst h; exact op_eqD hu
theorem op_neDK (h : X.K = K) (hu : X.A.units + 64 < cLine) : OpR X (compareOp .NotEq) (rNeD K) := by subst h; exact op_neD hu
def rLenK (K : PySem.W.Frag) : List V → Hp → VK → Prop := fun xs H Q => ∃ p ys, xs = [.ref p] ∧ (SqL K H p ys ∨ SqT K H p ys) ∧ Q (.int (ys.length : Int)) H
theorem lenK (h : X.K = K) : CallR X (.builtin "len") (rLenK K) := by subst h; exact call_len_seq
def rTupK (K : PySem.W.Frag) : List V → Hp → VK → Prop := fun xs H Q => ∃ p ys, xs = [.ref p] ∧ ((SqL K H p ys ∧ ∀ l, H l = none → Q (.ref l) (upd H l (.tup ys))) ∨ (SqT K H p ys ∧ Q (.ref p) H))
theorem tupleK (h : X.K = K) : CallR X (.type "tuple") (rTupK K) := by subst h; exact call_tuple_of
def rListK (K : PySem.W.Frag) : List V → Hp → VK → Prop := fun xs H Q => ∃ p ys, xs = [.ref p] ∧ (SqL K H p ys ∨ SqT K H p ys) ∧ ∀ l, H l = none → Q (.ref l) (upd H l (.lst ys))
theorem listK (h : X.K = K) : CallR X (.type "list") (rListK K) := by subst h; exact call_list_of
theorem typeK (h : X.K = K) : CallR X (.type "type") (rTyD K) := by subst h; exact call_typeD
theorem isK (h : X.K = K) : CallR X (.builtin "isinstance") (rIsD K) := by subst h; exact call_isD
theorem sumTK (h : X.K = K) (hc : X.calm = true) : CallR X (.builtin "sum") (rSumT K) := by subst h; exact cr_sumT hc
theorem sumLK (h : X.K = K) (hc : X.calm = true) : CallR X (.builtin "sum") (rSum K) := by subst h; exact cr_sum hc
theorem allK (h : X.K = K) (hc : X.calm = true) : CallR X (.builtin "all") (rAll K) := by subst h; exact cr_all hc
theorem anyK (h : X.K = K) (hc : X.calm = true) : CallR X (.builtin "any") (rAny K) := by subst h; exact cr_any hc
theorem pg_tupK {es : List Expr} {k : Nat} {t : TGs} {n : Nat} {pos : Pos} (hK : X.K = K) (hc : X.calm = true) (h : PGs X es t) (hn : (assignEach es X.env).length = n := by rfl) (hst : (assignEach es X.env).findIdx? (·.1) = none := by rfl) : PG X (.Tuple es k pos) (gTup K n t) := by
  subst hK
  exact pg_tup hc h hn hst
theorem pi_listK {l tg : Expr} {tl : TE} (h : X.K = K) (hl : PE X l tl) : PI X tg l (iList K tl) := by subst h; exact pi_list hl
theorem pi_tupK {l tg : Expr} {tl : TE} (h : X.K = K) (hl : PE X l tl) : PI X tg l (iTup K tl) := by subst h; exact pi_tup hl
end
/-- the list that is gone over, made first -/
theorem lc_src {K : PySem.W.Frag} {tl : TE} {g : TG} {tt : TT} {te : TE} {js : List Nat} {σ : L2.St} {H : Hp} {Q : VK} (h : tl σ H fun x H1 => tLc (iList K (tC x)) g tt te js σ H1 Q) : tLc (iList K tl) g tt te js σ H Q := h
theorem hold {u : TS} {D : Ends} {σ : L2.St} {H : Hp} (h : u D σ H) : Hold u D σ H := h
end Pl

namespace Pl
open PySem PySem.Spec PyProof.Rows L2
/-! ### a def called in an except suite that is handed the error itself -/
/-- as L2H.FnH; what it promises may speak of the error at hand, z -/
structure FnZ (P : Program) (w : World) (K : PySem.W.Frag) (mg : Str → Option Value) (base : Heap) (k : Nat) (g : Addr) (gd : FuncData) (qs : List Str) (sp : Addr × Obj → Sp) : Prop where
  len : ∀ z vs H Q E, sp z vs H Q E → vs.length = qs.length
  run : ∀ (z : Addr × Obj) (B : Around) (out : List Env) (t : Shared) (H : Hp) (xs : Args) (us : List Value) (vs : List V) (Q : VK) (E : XK), L2H.RoomH k B → L2H.Hot1 B z → L2H.PinOk out H t z → Env0 P w K mg base B out t H →
    BindsTo t gd xs (qs.zip us) → Vals vs us → sp z vs H Q E → codeAny (model P w) B (.call (.ref g) xs) (CR CX0 out P w H t Q E) t
theorem fnz_of {P : Program} {w : World} {K : PySem.W.Frag} {mg : Str → Option Value} {base : Heap} {k : Nat} {g : Addr} {gd : FuncData} {nm qn : Str} {prm : Arguments} {bdy : List Stmt} {scp : Scope} {M qs : List Str} {sp : Addr × Obj → Sp}
    (F : FunD K nm qn prm bdy scp [] [] g gd) (S : FnScope M qs scp) (len : ∀ z vs H Q E, sp z vs H Q E → vs.length = qs.length)
    (hb : ∀ (cdv : Value) (B : Around) (out : List Env) (t : Shared) (H : Hp) (vs : List V) (Q : VK) (E : XK) (z : Addr × Obj), sp z vs H Q E →
      ∃ r, PSs (L2H.cxH CX0 P w K mg base M qn scp g cdv B out t H E z) bdy r ∧ r { nx := fun _ H' => Q .non H', rt := Q } (L2.start M vs) H) : FnZ P w K mg base (k + 1) g gd qs sp := by
  obtain ⟨oc, od, dV, kV, doc, pm, an, cdv, ct, osl, rfl, lk, hcd, _, _⟩ := F.ex
  refine ⟨len, fun z B out t H xs us vs Q E hroom hhot hz e0 hbd rv hsp => ?_⟩
  have hlen := len _ _ _ _ _ hsp
  have inK : K.In t.heap := e0.mod.kin.keeps fun b o e => (e0.bs b o e).1
  have nol : t.heap.NoLimit := e0.mod.nolimit.keeps fun b o e => (e0.bs b o e).1
  have kinds : ∀ y ∈ qs.zip us, scp.names.lookup y.1 = some .local ∨ (scp.names.lookup y.1 = some .cell ∧ ((cellsFrom (t.heap.objs.size + 1) scp.names []).lookup y.1).isSome = true) := fun ⟨n, v⟩ hy => by
    rcases S.par n (List.of_mem_zip hy).1 with q | q
    · exact .inl q
    · exact .inr ⟨q, PySem.W.cellsFrom_some _ _ _ (.inl q)⟩
  refine codeAny_call_function hroom.depth (inK _ _ lk) rfl S.co S.gen rfl (PySem.W.codeRec_of inK hcd) (hbd _ _ _ _ ?_)
  refine wpAny_newFunctionEnv_cells S.kind kinds fun env he t1 ic => ?_
  subst he
  refine ⟨nol.keeps ic.toInCall.keep, codeAny_func ?_⟩
  obtain ⟨r, hr, hq⟩ := hb cdv B out t H vs Q E z hsp
  have J0 := L2H.inv_startH (CX := CX0) (P := P) (w := w) (K := K) (mg := mg) (base := base) (N := M) (ps := qs) (qual := qn) (scope := scp) (f := g) (cd := cdv) (A := B) (outer := out) (s := t) (s1 := t1) (H := H) (E := E) S hz e0 hlen rv ic
  refine wpAny_mono (hr.run [] t1 (L2.start M vs) H _ J0 hq) (fun fl t' ht => ?_) fun e t' ht => ht
  cases fl with
  | ret u =>
    obtain ⟨v, σ', H', J, rr, q⟩ := ht
    exact ⟨v, H', J.os, J.bare, J.base, J.hok, rr, q⟩
  | next =>
    obtain ⟨σ', H', J, q⟩ := ht
    exact ⟨V.non, H', J.os, J.bare, J.base, J.hok, rfl, q⟩
  | brk => exact ht.elim fun _ ⟨_, _, q⟩ => q.elim
  | cont => exact ht.elim fun _ ⟨_, _, q⟩ => q.elim
section
variable {X : Cx} {k : Nat} {g : Addr} {gd : FuncData} {qs : List Str} {sp : Addr × Obj → Sp} {sp2 : Sp} {y : Str} {q pos : Pos} {a : Expr} {as : List Expr} {r : TA}
theorem pe_callZ {z : Addr × Obj} (F : FnZ X.prog X.w X.K X.mg X.base k g gd qs sp) (hr : L2H.RoomH k X.A) (hz : L2H.Hot1 X.A z) (hp : z ∈ X.pn) (hm : X.mg y = some (.ref g)) (hk : PySem.W.keepIn X.K (.ref g) = true) (hb : Binds X.K gd qs [])
    (hi : ∀ vs H Q, sp2 vs H Q E0 → sp z vs H Q E0) (ha : PA X (a :: as) r) (hg : Gl X y := by rfl) (hdb : (y == ("__debug__" : Str)) = false := by decide) (he : starEach (a :: as) X.env = (false, eval a X.env) :: starEach as X.env := by rfl) (hpl : (backTo pos (starEach as X.env)).any (·.1) = false := by rfl) :
    PE X (.Call (.Name y q) (a :: as) [] pos) (tCallS sp2 (fun _ => E0) r) := by
  refine ⟨fun pins t σ H Q I h => ?_⟩
  refine wpAny_Call_Name_kw (ld_glob I hg hm ?_ hdb)
  refine PySem.W.callWith_K (h₀ := X.base) I.ok.mod.kin hk (thn (ha.run pos pins t σ H _ I h) fun us t1 ⟨vs, H1, I1, rv, hsp2⟩ => ⟨I1.kIn, ?_⟩) he hpl
  have hsp := hi _ _ _ hsp2
  have hlen : us.length = qs.length := by rw [← rv.length]; exact F.len _ _ _ _ _ hsp
  have bd := hb t1 us I1.kIn (by rw [List.append_nil]; exact hlen)
  rw [List.append_nil] at bd
  have P1 := I1.pin z (List.mem_append_left _ hp)
  have pk : L2H.PinOk X.stack H1 t1 z := ⟨P1.1, P1.2.1, fun hm => (List.mem_cons.mp (I1.stkSub z.1 hm)).elim P1.2.2.1 P1.2.2.2.1, P1.2.2.2.2⟩
  refine wpAny_call (codeAny_mono (F.run z X.A X.stack t1 H1 ⟨us, []⟩ us vs Q E0 hr hz pk I1.env0 bd rv hsp) fun o t' ho => ?_)
  cases o with
  | error e => exact ho.elim
  | ok fl =>
    cases fl with
    | ret u => exact I1.after ho
    | next => exact ho.elim
    | brk => exact ho.elim
    | cont => exact ho.elim
end
/-! ### isinstance of that error -/
def rIsZ (K : PySem.W.Frag) (D a : Addr) : List V → Hp → VK → Prop := fun xs H Q => ∃ (c : V) (cv : Value) (b : Bool), xs = [.ref a, c] ∧ (∀ u, RelV c u → u = cv) ∧ PySem.W.kitOne K (.ref D) cv = some b ∧ Q (.bl b) H
theorem call_isZ {X : Cx} {a D : Addr} {oe : Obj} (C : ExcC X.K D) (hp : (a, oe) ∈ X.pn) (hz : Zc (.ref D) none oe) (hf : ∃ vs, oe.data = .fields vs) : CallR X (.builtin "isinstance") (rIsZ X.K D a) := by
  intro pins t σ H xs us Q I r h
  obtain ⟨c, cv, b, rfl, hcv, e, q⟩ := h
  obtain ⟨u1, u2, rfl, r1, r2⟩ := vals2 r
  cases (show u1 = Value.ref a from r1)
  cases hcv _ r2
  have hget := (I.pin (a, oe) (List.mem_append_left _ hp)).1
  obtain ⟨vs, hv⟩ := hf
  have J : PySem.W.InstAt t.heap a oe D none := by
    obtain ⟨oc, od, oda, osl⟩ := oe
    obtain ⟨z1, z2⟩ := hz
    dsimp only at z1 z2 hv
    subst z1 z2 hv
    exact ⟨hget, rfl, rfl, trivial⟩
  exact PySem.W.kia_one (PySem.W.handS_kitx_exc C.hg C.hk C.hs C.hd C.ha C.hn C.ht C.hm) I.kIn J e (fun z => nomatch z) fun tk => ⟨.bl b, H, I.kept (t' := tk) fun _ _ z => z, rfl, q⟩
/-! ### str * 0 or 1 -/
def rRepS : R2 := fun x y H Q => ∃ (z : Str) (k : Int), x = .str z ∧ y = .int k ∧ z.length ≤ 1000 ∧ 0 ≤ k ∧ k ≤ 10 ∧ Q (.str (Txt.mul z k)) H
theorem op_repS {X : Cx} : OpR X (binaryOp .Mult) rRepS := by
  intro pins t σ H x y v u Q I rx ry h
  obtain ⟨z, k, rfl, rfl, hz, h0, h1, q⟩ := h
  obtain ⟨t1, rfl⟩ := (show ∃ t, v = Value.str z t from rx)
  obtain ⟨t2, rfl⟩ := (show ∃ t, u = Value.int k t from ry)
  exact SB.mul (mulOk_of 1048576 16 (by omega) (by omega) (by omega) (by decide) (by decide)) fun t' tk => ⟨.str _, H, I.tok tk, ⟨_, rfl⟩, q⟩
/-! ### the errors' classes -/
def errs : List Err := [.plan, .sign, .count, .figures, .ended]
theorem err_mem (e : Err) : e ∈ errs := by cases e <;> simp [errs]
def pressC (K : PySem.W.Frag) : Addr := He.ga K "PressError"
structure ErrTop (K : PySem.W.Frag) : Prop where
  exc : ∀ e, ExcC K (errC K e)
  kit : ∀ e e', PySem.W.kitOne K (.ref (errC K e)) (.ref (errC K e')) = some (decide (e = e'))
  kitV : ∀ e, PySem.W.kitOne K (.ref (errC K e)) (.type "ValueError") = some true
  exm : ∀ e, PySem.W.exmOne K (.ref (errC K e)) (.ref (pressC K)) = some true
  raise : ∀ e, PySem.W.excIn K (errC K e) He.veBase "ValueError.__new__" = true ∧ PySem.W.keepIn K (.ref (errC K e)) = true ∧ PySem.W.subIn K (.ref (errC K e)) (.type "BaseException") = some true ∧ PySem.W.typeIn K (.ref (errC K e)) = some (.type "type")
def errB1 (K : PySem.W.Frag) (C : Addr) : Bool :=
  He.eqO (PySem.W.findIn K (.ref C) "__getattribute__") (some (some (.builtin "BaseException.__getattribute__"))) && (He.eqO (PySem.W.findIn K (.ref C) "__getattr__") (some none) &&
  (decide (PySem.W.subIn K (.ref C) (.type "BaseException") = some true) && (PySem.W.hasDictIn K C && (He.eqO (PySem.W.findIn K (.ref C) "__class__") (some (some (.builtin "object.__class__"))) &&
  (He.eqO (PySem.W.specialIn K (.builtin "object.__class__") "__get__") (some (some (.builtin "getset_descriptor.__get__"))) && (decide (PySem.W.takesIn K (.builtin "object.__class__") = some true) && decide (PySem.W.mroIn K C (.type "object") = some true)))))))
def errB (K : PySem.W.Frag) : Bool := errs.all fun e => errB1 K (errC K e) && ((errs.all fun e' => decide (PySem.W.kitOne K (.ref (errC K e)) (.ref (errC K e')) = some (decide (e = e')))) &&
  (decide (PySem.W.kitOne K (.ref (errC K e)) (.type "ValueError") = some true) && (decide (PySem.W.exmOne K (.ref (errC K e)) (.ref (pressC K)) = some true) &&
  (PySem.W.excIn K (errC K e) He.veBase "ValueError.__new__" && (PySem.W.keepIn K (.ref (errC K e)) && (decide (PySem.W.subIn K (.ref (errC K e)) (.type "BaseException") = some true) && decide (PySem.W.typeIn K (.ref (errC K e)) = some (.type "type"))))))))
theorem errB1_ok {K : PySem.W.Frag} {C : Addr} (h : errB1 K C = true) : ExcC K C := by
  obtain ⟨h1, h⟩ := He.ba h
  obtain ⟨h2, h⟩ := He.ba h
  obtain ⟨h3, h⟩ := He.ba h
  obtain ⟨h4, h⟩ := He.ba h
  obtain ⟨h5, h⟩ := He.ba h
  obtain ⟨h6, h⟩ := He.ba h
  obtain ⟨h7, h8⟩ := He.ba h
  exact ⟨He.eqO_ok h1, He.eqO_ok h2, of_decide_eq_true h3, h4, He.eqO_ok h5, He.eqO_ok h6, of_decide_eq_true h7, of_decide_eq_true h8⟩
theorem errB_ok {K : PySem.W.Frag} (h : errB K = true) : ErrTop K := by
  have key := fun e => List.all_eq_true.mp h e (err_mem e)
  refine ⟨fun e => errB1_ok (He.ba (key e)).1, fun e e' => ?_, fun e => ?_, fun e => ?_, fun e => ?_⟩
  · exact of_decide_eq_true (List.all_eq_true.mp (He.ba (He.ba (key e)).2).1 e' (err_mem e'))
  · exact of_decide_eq_true (He.ba (He.ba (He.ba (key e)).2).2).1
  · exact of_decide_eq_true (He.ba (He.ba (He.ba (He.ba (key e)).2).2).2).1
  · obtain ⟨h1, h⟩ := He.ba (He.ba (He.ba (He.ba (He.ba (key e)).2).2).2).2
    obtain ⟨h2, h⟩ := He.ba h
    obtain ⟨h3, h4⟩ := He.ba h
    exact ⟨h1, h2, of_decide_eq_true h3, of_decide_eq_true h4⟩
def wordOf : Err → Str
  | .plan => "plan"
  | .sign => "sign"
  | .count => "count"
  | .figures => "figures"
  | .ended => "ended"
def bit (b : Bool) : Int := if b then 1 else 0
theorem rep_bit (b : Bool) (xs : List V) : (List.replicate (bit b).toNat xs).flatten = if b then xs else [] := by
  cases b
  · rfl
  · show (List.replicate 1 xs).flatten = xs
    simp
/-! ### a try that catches what is told of the top, its suite handing the error on -/
theorem takesN0 {X : Cx} : L2N.Takes X (fun _ _ _ _ => False) := fun _ _ x => by
  obtain ⟨_, _, _, _, _, _, _, _, _, _, _, _, _, _, _, _, z⟩ := x
  exact z.elim
theorem roomH_of {k : Nat} {A : Around} {v : Option Value} (r : Room k A) : L2H.RoomH k (A.mark v) := ⟨r.dp, r.un⟩
theorem hot_of {A : Around} {a : Addr} {oe : Obj} {cls : Value} {d : Option Addr} (hz : L2N.Zn cls d oe) (hf : ∃ vs, oe.data = .fields vs) : L2H.Hot1 (A.mark (some (.ref a))) (a, oe) := by
  obtain ⟨vs, e⟩ := hf
  exact ⟨rfl, vs, e, hz.2.2 vs e⟩
end Pl

namespace Pl
open PySem PySem.Spec PyProof.Rows L2
theorem dpa_take {K : PySem.W.Frag} {H : Hp} : ∀ {n : Nat} {vs : List V} {ds : List PyData}, DpAll K H vs ds → DpAll K H (vs.take n) (ds.take n)
  | 0, _, _, _ => .nil
  | _ + 1, _, [], h => by cases h; exact .nil
  | n + 1, _, _ :: _, h => by
    cases h with
    | cons a b => exact .cons a (dpa_take b)
theorem dpa_drop {K : PySem.W.Frag} {H : Hp} : ∀ {n : Nat} {vs : List V} {ds : List PyData}, DpAll K H vs ds → DpAll K H (vs.drop n) (ds.drop n)
  | 0, _, _, h => h
  | _ + 1, _, [], h => by cases h; exact .nil
  | n + 1, _, _ :: _, h => by
    cases h with
    | cons a b => exact dpa_drop (n := n) b
/-! ### what comes of an expression, as data; what stood stays -/
def EvD (K : PySem.W.Frag) (te : TE) (σ : L2.St) (H : Hp) (d : PyData) : Prop := ∀ H1 (Q : VK), Same H H1 → (∀ v H2, Same H1 H2 → Dp K H2 v d → Q v H2) → te σ H1 Q
def EvDs (K : PySem.W.Frag) (ta : TA) (σ : L2.St) (H : Hp) (ds : List PyData) : Prop := ∀ H1 (Q : List V → Hp → Prop), Same H H1 → (∀ vs H2, Same H1 H2 → DpAll K H2 vs ds → Q vs H2) → ta σ H1 Q
/-- a plain value -/
def EvV (te : TE) (σ : L2.St) (H : Hp) (v : V) : Prop := ∀ H1 (Q : VK), Same H H1 → (∀ H2, Same H1 H2 → Q v H2) → te σ H1 Q
/-- a list that is tracked -/
def EvK (K : PySem.W.Frag) (te : TE) (σ : L2.St) (H : Hp) (ds : List PyData) : Prop := ∀ H1 (Q : VK), Same H H1 → (∀ p vs H2, Same H1 H2 → H2 p = some (.lst vs) → DpAll K H2 vs ds → Q (.ref p) H2) → te σ H1 Q
/-- a new list -/
def EvO (K : PySem.W.Frag) (te : TE) (σ : L2.St) (H : Hp) (ds : List PyData) : Prop := ∀ H1 (Q : VK), Same H H1 → (∀ p vs H2, H1 p = none → Same H1 H2 → H2 p = some (.lst vs) → DpAll K H2 vs ds → Q (.ref p) H2) → te σ H1 Q
section
variable {K : PySem.W.Frag} {te ta tb : TE} {tas tr : TA} {σ : L2.St} {H H' : Hp} {d e : PyData} {ds es : List PyData} {v x y : V} {i : Nat}
theorem EvD.mono (s : Same H H') (h : EvD K te σ H d) : EvD K te σ H' d := fun H1 Q s1 k => h H1 Q (s.trans s1) k
theorem EvO.mono (s : Same H H') (h : EvO K te σ H ds) : EvO K te σ H' ds := fun H1 Q s1 k => h H1 Q (s.trans s1) k
theorem EvK.mono (s : Same H H') (h : EvK K te σ H ds) : EvK K te σ H' ds := fun H1 Q s1 k => h H1 Q (s.trans s1) k
theorem EvV.mono (s : Same H H') (h : EvV te σ H v) : EvV te σ H' v := fun H1 Q s1 k => h H1 Q (s.trans s1) k
theorem EvO.k (h : EvO K te σ H ds) : EvK K te σ H ds := fun H1 Q s1 k => h H1 Q s1 fun p vs H2 _ s2 e2 d2 => k p vs H2 s2 e2 d2
theorem EvK.dat (h : EvK K te σ H ds) : EvD K te σ H (.list ds) := fun H1 Q s1 k => h H1 Q s1 fun p vs H2 s2 e2 d2 => k _ H2 s2 (.lst (.inl (.inl e2)) d2)
theorem EvV.dat (h : EvV te σ H v) (hd : ∀ H2, Same H H2 → Dp K H2 v d) : EvD K te σ H d := fun H1 Q s1 k => h H1 Q s1 fun H2 s2 => k v H2 s2 (hd H2 (s1.trans s2))
theorem EvV.int {n : Int} (h : EvV te σ H (.int n)) : EvD K te σ H (.int n) := h.dat fun _ _ => .int n
theorem EvV.bool {b : Bool} (h : EvV te σ H (.bl b)) : EvD K te σ H (.bool b) := h.dat fun _ _ => .bl b
theorem EvD.v_int {n : Int} (h : EvD K te σ H (.int n)) : EvV te σ H (.int n) := fun H1 Q s1 k => h H1 Q s1 fun v H2 s2 d2 => by rw [dp_int d2]; exact k H2 s2
theorem ev_var (h : σ[i]? = some (some v)) : EvV (tVar i) σ H v := fun H1 Q _ k => ⟨v, h, k H1 (Same.refl H1)⟩
theorem ev_c : EvV (tC v) σ H v := fun H1 Q _ k => k H1 (Same.refl H1)
/-- by the reading itself, where nothing new is made -/
theorem ev_v (h : ∀ H1 (Q : VK), Same H H1 → Q v H1 → te σ H1 Q) : EvV te σ H v := fun H1 Q s1 k => h H1 Q s1 (k H1 (Same.refl H1))
theorem evd_var (h : σ[i]? = some (some v)) (hd : Dp K H v d) : EvD K (tVar i) σ H d := (ev_var h).dat fun H2 s => dp_same s _ _ hd
theorem evd_int {n : Int} : EvD K (tC (.int n)) σ H (.int n) := ev_c.dat fun _ _ => .int n
theorem evd_bl {b : Bool} : EvD K (tC (.bl b)) σ H (.bool b) := ev_c.dat fun _ _ => .bl b
theorem evd_str {z : Str} : EvD K (tC (.str z)) σ H (.str z) := ev_c.dat fun _ _ => .str z
theorem evd_non : EvD K (tC .non) σ H .none := ev_c.dat fun _ _ => .non
theorem eds_nil : EvDs K tNil σ H [] := fun H1 Q _ k => k [] H1 (Same.refl H1) .nil
theorem eds_cons (h : EvD K te σ H d) (hr : EvDs K tr σ H ds) : EvDs K (tCons te tr) σ H (d :: ds) := fun H1 Q s1 k => h H1 _ s1 fun v H2 s2 d2 => hr H2 _ (s1.trans s2) fun vs H3 s3 d3 => k _ H3 (s2.trans s3) (.cons (dp_same s3 _ _ d2) d3)
theorem evd_tup (h : EvDs K tas σ H ds) (hl : ds.length ≤ 100000) : EvD K (tTup tas) σ H (.tuple ds) := fun H1 Q s1 k => h H1 _ s1 fun vs H2 s2 d2 =>
  ⟨by rw [dpa_len d2]; exact Nat.le_trans hl (by decide), fun p np => k _ _ (s2.trans (same_upd np)) (.tup (.inl (.inl upd_same)) (dpa_same (same_upd np) _ _ d2))⟩
theorem evo_lst (h : EvDs K tas σ H ds) (hl : ds.length ≤ 100000) : EvO K (tLst tas) σ H ds := fun H1 Q s1 k => h H1 _ s1 fun vs H2 s2 d2 =>
  ⟨by rw [dpa_len d2]; exact Nat.le_trans hl (by decide), fun p np => k p vs _ (s2.free np) (s2.trans (same_upd np)) upd_same (dpa_same (same_upd np) _ _ d2)⟩
theorem evk_var {p : Addr} {vs : List V} (h : σ[i]? = some (some (.ref p))) (he : H p = some (.lst vs)) (hd : DpAll K H vs ds) : EvK K (tVar i) σ H ds := fun H1 Q s1 k =>
  ⟨_, h, k p vs H1 (Same.refl H1) (s1 _ _ he) (dpa_same s1 _ _ hd)⟩
theorem evo_cat (ha : EvK K ta σ H ds) (hb : EvK K tb σ H es) (hl : ds.length + es.length ≤ 100000) : EvO K (tOp rCat ta tb) σ H (ds ++ es) := fun H1 Q s1 k =>
  ha H1 _ s1 fun p vs H2 s2 e2 d2 => hb H2 _ (s1.trans s2) fun q us H3 s3 e3 d3 => ⟨p, q, vs, us, rfl, rfl, s3 _ _ e2, e3, by rw [dpa_len d2, dpa_len d3]; exact Nat.le_trans hl (by decide), fun l nl =>
    k l _ _ ((s2.trans s3).free nl) ((s2.trans s3).trans (same_upd nl)) upd_same (dpa_app (dpa_same (s3.trans (same_upd nl)) _ _ d2) (dpa_same (same_upd nl) _ _ d3))⟩
/-- a comprehension over a list -/
theorem evo_lc {j : Nat} {tt : TT} {w : PyData} (keep : PyData → Bool) (g : PyData → PyData) (hs : EvK K te σ H ds) (hz : ds.length ≤ 100000)
    (ht : ∀ x d H1 (R : Bool → Hp → Prop), d ∈ ds → Same H H1 → Dp K H1 x d → (∀ H2, Same H1 H2 → R (keep d) H2) → tt ((wipe σ [j]).set j (some x)) H1 R)
    (he : ∀ x d H1 D (R : VK), d ∈ ds → keep d = true → Same H H1 → Dp K (erase D H1) x d → (∃ acc, H1 D = some (.lst acc)) → Same H (erase D H1) → (∀ y H2, Same H1 H2 → Dp K (erase D H2) y (g d) → R y H2) → tb ((wipe σ [j]).set j (some x)) H1 R) :
    EvO K (tLc (iList K te) (gName j) tt tb [j]) σ H ((ds.filter keep).map g) := fun H1 Q s1 k => by
  refine lc_src (hs H1 _ s1 fun p vs H2 s2 e2 d2 => ?_)
  have hl := dpa_len d2
  refine lc_dpL (fun n => keep (ds.getD n w)) (fun n => g (ds.getD n w)) (fun R h => h) (.inl (.inl e2)) (by omega) (fun n x H3 R e3 s3 k3 => ?_) (fun n x H3 D R e3 kp hD hacc s3 k3 => ?_) (fun D acc H3 hD s3 e3 d3 => ?_)
  · obtain ⟨d, ed, hx⟩ := dpa_get2 d2 e3
    rw [getD_of ed] at k3
    exact ht x d H3 R (List.mem_of_getElem? ed) ((s1.trans s2).trans s3) (dp_same s3 _ _ hx) k3
  · obtain ⟨d, ed, hx⟩ := dpa_get2 d2 e3
    rw [getD_of ed] at k3 kp
    exact he x d H3 D R (List.mem_of_getElem? ed) kp ((s1.trans s2).trans s3) (dp_same (same_erase s3 hD) _ _ hx) hacc ((s1.trans s2).trans (same_erase s3 hD)) k3
  · refine k D acc H3 (s2.free hD) (s2.trans s3) e3 ?_
    have e0 : (List.range ds.length).map (fun n => ds.getD n w) = ds := by
      have := range_get ds (fun d => d) w
      rw [List.map_id'] at this
      exact this
    have ez : ((List.range vs.length).filter fun n => keep (ds.getD n w)).map (fun n => g (ds.getD n w)) = (ds.filter keep).map g := by
      rw [hl]
      calc ((List.range ds.length).filter fun n => keep (ds.getD n w)).map (fun n => g (ds.getD n w))
          = (((List.range ds.length).filter (keep ∘ fun n => ds.getD n w)).map (fun n => ds.getD n w)).map g := by rw [List.map_map]; rfl
        _ = (((List.range ds.length).map (fun n => ds.getD n w)).filter keep).map g := by rw [List.filter_map]
        _ = (ds.filter keep).map g := by rw [e0]
    rw [ez] at d3
    exact d3
theorem evd_ix {n : Int} (ha : EvD K ta σ H (.list ds)) (hb : EvV tb σ H (.int n)) (h0 : 0 ≤ n) (he : ds[n.toNat]? = some d) : EvD K (tOp (rIxL K) ta tb) σ H d := fun H1 Q s1 k =>
  ha H1 _ s1 fun v H2 s2 d2 => hb H2 _ (s1.trans s2) fun H3 s3 => by
    cases d2 with
    | lst hs ha =>
      obtain ⟨u, eu, hu⟩ := dpa_get ha he
      exact ⟨_, _, n, u, rfl, rfl, s3.seq hs, at_of (j := n.toNat) (by omega) eu, k u H3 (s2.trans s3) (dp_same s3 _ _ hu)⟩
theorem evd_ixT {n : Int} (ha : EvD K ta σ H (.tuple ds)) (hb : EvV tb σ H (.int n)) (h0 : 0 ≤ n) (he : ds[n.toNat]? = some d) : EvD K (tOp (rIxT K) ta tb) σ H d := fun H1 Q s1 k =>
  ha H1 _ s1 fun v H2 s2 d2 => hb H2 _ (s1.trans s2) fun H3 s3 => by
    cases d2 with
    | tup hs ha =>
      obtain ⟨u, eu, hu⟩ := dpa_get ha he
      exact ⟨_, _, n, u, rfl, rfl, same_t s3 hs, at_of (j := n.toNat) (by omega) eu, k u H3 (s2.trans s3) (dp_same s3 _ _ hu)⟩
/-- two ints in -/
theorem ev_op {C : Int → Int → Prop} {g : Int → Int → V} {n m : Int} (ha : EvV ta σ H (.int n)) (hb : EvV tb σ H (.int m)) (hc : C n m) : EvV (tOp (rI C g) ta tb) σ H (g n m) := fun H1 Q s1 k =>
  ha H1 _ s1 fun H2 s2 => hb H2 _ (s1.trans s2) fun H3 s3 => ⟨n, m, rfl, rfl, hc, k H3 (s2.trans s3)⟩
theorem ev_op0 {g : Int → Int → V} {n m : Int} (ha : EvV ta σ H (.int n)) (hb : EvV tb σ H (.int m)) : EvV (tOp (rI0 g) ta tb) σ H (g n m) := fun H1 Q s1 k =>
  ha H1 _ s1 fun H2 s2 => hb H2 _ (s1.trans s2) fun H3 s3 => ⟨n, m, rfl, rfl, k H3 (s2.trans s3)⟩
theorem ev_neg {n : Int} (ha : EvV ta σ H (.int n)) : EvV (tUn (rU fun i => .int (-i)) ta) σ H (.int (-n)) := fun H1 Q s1 k => ha H1 _ s1 fun H2 s2 => ⟨n, rfl, k H2 s2⟩
theorem evd_listOf (ha : EvD K ta σ H (.tuple ds)) : EvO K (tCB (rListK K) (tCons ta tNil)) σ H ds := fun H1 Q s1 k => ha H1 _ s1 fun v H2 s2 d2 => by
  cases d2 with
  | tup hs ha => exact ⟨_, _, rfl, .inr hs, fun l nl => k l _ _ (s2.free nl) (s2.trans (same_upd nl)) upd_same (dpa_same (same_upd nl) _ _ ha)⟩
theorem evd_listOfL (ha : EvD K ta σ H (.list ds)) : EvO K (tCB (rListK K) (tCons ta tNil)) σ H ds := fun H1 Q s1 k => ha H1 _ s1 fun v H2 s2 d2 => by
  cases d2 with
  | lst hs ha => exact ⟨_, _, rfl, .inl hs, fun l nl => k l _ _ (s2.free nl) (s2.trans (same_upd nl)) upd_same (dpa_same (same_upd nl) _ _ ha)⟩
theorem evd_tupOf (ha : EvD K ta σ H (.list ds)) : EvD K (tCB (rTupK K) (tCons ta tNil)) σ H (.tuple ds) := fun H1 Q s1 k => ha H1 _ s1 fun v H2 s2 d2 => by
  cases d2 with
  | lst hs ha => exact ⟨_, _, rfl, .inl ⟨hs, fun l nl => k _ _ (s2.trans (same_upd nl)) (.tup (.inl (.inl upd_same)) (dpa_same (same_upd nl) _ _ ha))⟩⟩
theorem evd_catT (ha : EvD K ta σ H (.tuple ds)) (hb : EvD K tb σ H (.tuple es)) (hl : ds.length + es.length ≤ 100000) : EvD K (tOp (rCatA K) ta tb) σ H (.tuple (ds ++ es)) := fun H1 Q s1 k =>
  ha H1 _ s1 fun v H2 s2 d2 => hb H2 _ (s1.trans s2) fun u H3 s3 d3 => by
    cases d2 with
    | tup h1 a1 =>
      cases d3 with
      | tup h2 a2 =>
        refine catT (same_t s3 h1) h2 (by rw [dpa_len a1, dpa_len a2]; exact hl) fun p H4 s4 h4 => ?_
        exact k _ H4 ((s2.trans s3).trans s4) (.tup h4 (dpa_app (dpa_same (s3.trans s4) _ _ a1) (dpa_same s4 _ _ a2)))
/-! ### statements -/
variable {u : TS} {D : Ends}
theorem asgO (h : EvO K te σ H ds) (k : ∀ p vs H1, H p = none → Same H H1 → H1 p = some (.lst vs) → DpAll K H1 vs ds → u D (σ.set i (some (.ref p))) H1) : tSeq (tAsg te (gName i)) u D σ H := h H _ (Same.refl H) fun p vs H1 np s e d => k p vs H1 np s e d
theorem asgD (h : EvD K te σ H d) (k : ∀ v H1, Same H H1 → Dp K H1 v d → u D (σ.set i (some v)) H1) : tSeq (tAsg te (gName i)) u D σ H := h H _ (Same.refl H) fun v H1 s d => k v H1 s d
theorem asgV (h : EvV te σ H v) (k : ∀ H1, Same H H1 → u D (σ.set i (some v)) H1) : tSeq (tAsg te (gName i)) u D σ H := h H _ (Same.refl H) fun H1 s => k H1 s
theorem retD (h : EvD K te σ H d) (k : ∀ v H1, Same H H1 → Dp K H1 v d → D.rt v H1) : tRet te D σ H := h H _ (Same.refl H) fun v H1 s d => k v H1 s d
theorem retV (h : EvV te σ H v) (k : ∀ H1, Same H H1 → D.rt v H1) : tRet te D σ H := h H _ (Same.refl H) fun H1 s => k H1 s
/-! ### the elements of a comprehension: data, none of it by way of the list that is made -/
end
/-- as EvD; what comes does not hang on what stands at D -/
def EvX (K : PySem.W.Frag) (D : Addr) (te : TE) (σ : L2.St) (H : Hp) (d : PyData) : Prop := ∀ H1 (Q : VK), Same H H1 → (∀ v H2, Same H1 H2 → Dp K (erase D H2) v d → Q v H2) → te σ H1 Q
def EvXs (K : PySem.W.Frag) (D : Addr) (ta : TA) (σ : L2.St) (H : Hp) (ds : List PyData) : Prop := ∀ H1 (Q : List V → Hp → Prop), Same H H1 → (∀ vs H2, Same H1 H2 → DpAll K (erase D H2) vs ds → Q vs H2) → ta σ H1 Q
section
variable {K : PySem.W.Frag} {D : Addr} {te ta tb : TE} {tas tr : TA} {σ : L2.St} {H : Hp} {d e : PyData} {ds es : List PyData} {v : V} {i : Nat}
theorem exv (h : EvV te σ H v) (hd : ∀ H2, Same H H2 → Dp K (erase D H2) v d) : EvX K D te σ H d := fun H1 Q s1 k => h H1 Q s1 fun H2 s2 => k v H2 s2 (hd H2 (s1.trans s2))
theorem exv_var (h : σ[i]? = some (some v)) (hd : Dp K (erase D H) v d) : EvX K D (tVar i) σ H d := exv (ev_var h) fun H2 s => dp_same (erase_mono s) _ _ hd
theorem exs_nil : EvXs K D tNil σ H [] := fun H1 Q _ k => k [] H1 (Same.refl H1) .nil
theorem exs_cons (h : EvX K D te σ H d) (hr : EvXs K D tr σ H ds) : EvXs K D (tCons te tr) σ H (d :: ds) := fun H1 Q s1 k => h H1 _ s1 fun v H2 s2 d2 => hr H2 _ (s1.trans s2) fun vs H3 s3 d3 => k _ H3 (s2.trans s3) (.cons (dp_same (erase_mono s3) _ _ d2) d3)
theorem exv_tup (hD : ∃ acc, H D = some (.lst acc)) (h : EvXs K D tas σ H ds) (hl : ds.length ≤ 100000) : EvX K D (tTup tas) σ H (.tuple ds) := fun H1 Q s1 k => h H1 _ s1 fun vs H2 s2 d2 =>
  ⟨by rw [dpa_len d2]; exact Nat.le_trans hl (by decide), fun p np => k _ _ (s2.trans (same_upd np)) (.tup (sqt_erase (by obtain ⟨acc, e⟩ := hD; exact ⟨acc, ((s1.trans s2).trans (same_upd np)) _ _ e⟩) (.inl (.inl upd_same))) (dpa_same (erase_mono (same_upd np)) _ _ d2))⟩
theorem exv_catT (hD : ∃ acc, H D = some (.lst acc)) (ha : EvX K D ta σ H (.tuple ds)) (hb : EvX K D tb σ H (.tuple es)) (hl : ds.length + es.length ≤ 100000) : EvX K D (tOp (rCatA K) ta tb) σ H (.tuple (ds ++ es)) := fun H1 Q s1 k =>
  ha H1 _ s1 fun v H2 s2 d2 => hb H2 _ (s1.trans s2) fun u H3 s3 d3 => by
    cases d2 with
    | tup h1 a1 =>
      cases d3 with
      | tup h2 a2 =>
        obtain ⟨acc, e⟩ := hD
        refine catT (same_t ((erase_same D H2).trans s3) h1) (same_t (erase_same D H3) h2) (by rw [dpa_len a1, dpa_len a2]; exact hl) fun p H4 s4 h4 => ?_
        exact k _ H4 ((s2.trans s3).trans s4) (.tup (sqt_erase ⟨acc, (((s1.trans s2).trans s3).trans s4) _ _ e⟩ h4) (dpa_app (dpa_same (erase_mono (s3.trans s4)) _ _ a1) (dpa_same (erase_mono s4) _ _ a2)))
end
/-! ### slices -/
section
variable {K : PySem.W.Frag} {te ta tb : TE} {σ : L2.St} {H : Hp} {ds : List PyData} {n : Int}
theorem evd_take (h : EvD K te σ H (.tuple ds)) (hn : EvV ta σ H (.int n)) (h0 : 0 ≤ n) (h1 : n ≤ ds.length) : EvD K (tSl (rSlA K) te tNoPart (tPart ta)) σ H (.tuple (ds.take n.toNat)) := fun H1 Q s1 k =>
  h H1 _ s1 fun v H2 s2 d2 => hn H2 _ (s1.trans s2) fun H3 s3 => ⟨n, rfl, by
    cases d2 with
    | tup hs ha =>
      refine slT_take (same_t s3 hs) h0 (by rw [dpa_len ha]; exact h1) fun p H4 s4 h4 => ?_
      exact k _ H4 ((s2.trans s3).trans s4) (.tup h4 (dpa_take (dpa_same (s3.trans s4) _ _ ha)))⟩
theorem evd_drop (h : EvD K te σ H (.tuple ds)) (hn : EvV ta σ H (.int n)) (h0 : 0 ≤ n) (h1 : n ≤ ds.length) : EvD K (tSl (rSlA K) te (tPart ta) tNoPart) σ H (.tuple (ds.drop n.toNat)) := fun H1 Q s1 k =>
  h H1 _ s1 fun v H2 s2 d2 => hn H2 _ (s1.trans s2) fun H3 s3 => ⟨n, rfl, by
    cases d2 with
    | tup hs ha =>
      refine slT_drop (same_t s3 hs) h0 (by rw [dpa_len ha]; exact h1) fun p H4 s4 h4 => ?_
      exact k _ H4 ((s2.trans s3).trans s4) (.tup h4 (dpa_drop (dpa_same (s3.trans s4) _ _ ha)))⟩
end
section
variable {K : PySem.W.Frag} {D : Addr} {te ta tb : TE} {σ : L2.St} {H : Hp} {ds : List PyData} {n : Int}
theorem exv_take (hD : ∃ acc, H D = some (.lst acc)) (h : EvX K D te σ H (.tuple ds)) (hn : EvV ta σ H (.int n)) (h0 : 0 ≤ n) (h1 : n ≤ ds.length) : EvX K D (tSl (rSlA K) te tNoPart (tPart ta)) σ H (.tuple (ds.take n.toNat)) := fun H1 Q s1 k =>
  h H1 _ s1 fun v H2 s2 d2 => hn H2 _ (s1.trans s2) fun H3 s3 => ⟨n, rfl, by
    cases d2 with
    | tup hs ha =>
      obtain ⟨acc, e⟩ := hD
      refine slT_take (same_t ((erase_same D H2).trans s3) hs) h0 (by rw [dpa_len ha]; exact h1) fun p H4 s4 h4 => ?_
      exact k _ H4 ((s2.trans s3).trans s4) (.tup (sqt_erase ⟨acc, (((s1.trans s2).trans s3).trans s4) _ _ e⟩ h4) (dpa_take (dpa_same (erase_mono (s3.trans s4)) _ _ ha)))⟩
theorem exv_drop (hD : ∃ acc, H D = some (.lst acc)) (h : EvX K D te σ H (.tuple ds)) (hn : EvV ta σ H (.int n)) (h0 : 0 ≤ n) (h1 : n ≤ ds.length) : EvX K D (tSl (rSlA K) te (tPart ta) tNoPart) σ H (.tuple (ds.drop n.toNat)) := fun H1 Q s1 k =>
  h H1 _ s1 fun v H2 s2 d2 => hn H2 _ (s1.trans s2) fun H3 s3 => ⟨n, rfl, by
    cases d2 with
    | tup hs ha =>
      obtain ⟨acc, e⟩ := hD
      refine slT_drop (same_t ((erase_same D H2).trans s3) hs) h0 (by rw [dpa_len ha]; exact h1) fun p H4 s4 h4 => ?_
      exact k _ H4 ((s2.trans s3).trans s4) (.tup (sqt_erase ⟨acc, (((s1.trans s2).trans s3).trans s4) _ _ e⟩ h4) (dpa_drop (dpa_same (erase_mono (s3.trans s4)) _ _ ha)))⟩
theorem dpa_rep {K : PySem.W.Frag} {H : Hp} {vs : List V} {ds : List PyData} (h : DpAll K H vs ds) : ∀ n : Nat, DpAll K H (List.replicate n vs).flatten (List.replicate n ds).flatten
  | 0 => .nil
  | n + 1 => by
    rw [List.replicate_succ, List.replicate_succ, List.flatten_cons, List.flatten_cons]
    exact dpa_app h (dpa_rep h n)
theorem evd_repT {m : Int} (h : EvD K ta σ H (.tuple ds)) (hn : EvV tb σ H (.int m)) (h0 : ds ≠ []) (h1 : 2 ≤ m) (h2 : m ≤ 1000) (h3 : ds.length ≤ 1000) : EvD K (tOp (rRepT K) ta tb) σ H (.tuple (List.replicate m.toNat ds).flatten) := fun H1 Q s1 k =>
  h H1 _ s1 fun v H2 s2 d2 => hn H2 _ (s1.trans s2) fun H3 s3 => by
    cases d2 with
    | tup hs ha =>
      have hl := dpa_len ha
      refine ⟨_, m, _, rfl, rfl, same_t s3 hs, fun z => h0 ?_, h1, h2, by omega, fun p np => k _ _ ((s2.trans s3).trans (same_upd np)) (.tup (.inl (.inl upd_same)) (dpa_rep (dpa_same (s3.trans (same_upd np)) _ _ ha) _))⟩
      rw [z] at hl
      exact List.length_eq_zero_iff.mp hl.symm
end
/-! ### tests -/
def EvB (tt : TT) (σ : L2.St) (H : Hp) (b : Bool) : Prop := ∀ H1 (R : Bool → Hp → Prop), Same H H1 → (∀ H2, Same H1 H2 → R b H2) → tt σ H1 R
section
variable {K : PySem.W.Frag} {te ta tb : TE} {tt tu : TT} {tas tr : TA} {σ : L2.St} {H H' : Hp} {d e : PyData} {ds es : List PyData} {v x y : V} {i : Nat} {a b : Bool} {u w : TS} {D : Ends}
theorem EvB.mono (s : Same H H') (h : EvB tt σ H b) : EvB tt σ H' b := fun H1 Q s1 k => h H1 Q (s.trans s1) k
theorem EvB.is (h : EvB tt σ H a) (e : a = b) : EvB tt σ H b := e ▸ h
theorem EvV.is (h : EvV te σ H x) (e : x = y) : EvV te σ H y := e ▸ h
theorem evb_test (h : EvV te σ H (.bl b)) : EvB (tTest te) σ H b := fun H1 R s1 k => h H1 _ s1 fun H2 s2 => ⟨b, rfl, k H2 s2⟩
theorem evb_b (h : EvV te σ H (.bl b)) : EvB (tB te) σ H b := fun H1 R s1 k => h H1 _ s1 fun H2 s2 => ⟨b, rfl, k H2 s2⟩
theorem evb_not (h : EvB tt σ H a) : EvB (tNot tt) σ H (!a) := fun H1 R s1 k => h H1 _ s1 fun H2 s2 => k H2 s2
theorem evb_or (h : EvB tt σ H a) (h2 : a = false → EvB tu σ H b) : EvB (tOr tt tu) σ H (a || b) := fun H1 R s1 k => h H1 _ s1 fun H2 s2 => by
  cases a with
  | true => exact iteT (k H2 s2)
  | false => exact iteF (h2 rfl H2 R (s1.trans s2) fun H3 s3 => k H3 (s2.trans s3))
theorem evb_and (h : EvB tt σ H a) (h2 : a = true → EvB tu σ H b) : EvB (tAnd tt tu) σ H (a && b) := fun H1 R s1 k => h H1 _ s1 fun H2 s2 => by
  cases a with
  | true => exact iteT (h2 rfl H2 R (s1.trans s2) fun H3 s3 => k H3 (s2.trans s3))
  | false => exact iteF (k H2 s2)
theorem ev_and (h : EvV ta σ H (.bl a)) (h2 : a = true → EvV tb σ H (.bl b)) : EvV (tAndV ta tb) σ H (.bl (a && b)) := fun H1 Q s1 k => h H1 _ s1 fun H2 s2 => ⟨a, rfl, by
  cases a with
  | true => exact iteT (h2 rfl H2 Q (s1.trans s2) fun H3 s3 => k H3 (s2.trans s3))
  | false => exact iteF (k H2 s2)⟩
theorem ev_or (h : EvV ta σ H (.bl a)) (h2 : a = false → EvV tb σ H (.bl b)) : EvV (tOrV ta tb) σ H (.bl (a || b)) := fun H1 Q s1 k => h H1 _ s1 fun H2 s2 => ⟨a, rfl, by
  cases a with
  | true => exact iteT (k H2 s2)
  | false => exact iteF (h2 rfl H2 Q (s1.trans s2) fun H3 s3 => k H3 (s2.trans s3))⟩
theorem ev_not (h : EvV ta σ H (.bl a)) : EvV (tNotV ta) σ H (.bl (!a)) := fun H1 Q s1 k => h H1 _ s1 fun H2 s2 => ⟨a, rfl, k H2 s2⟩
theorem ev_chain {C C' : Int → Int → Prop} {f f' : Int → Int → Bool} {tc : TE} {n m q : Int} (ha : EvV ta σ H (.int n)) (hb : EvV tb σ H (.int m)) (hc : EvV tc σ H (.int q)) : EvV (tChain (rI0 fun i j => .bl (f i j)) (rI0 fun i j => .bl (f' i j)) ta tb tc) σ H (.bl (f n m && f' m q)) := fun H1 Q s1 k =>
  ha H1 _ s1 fun H2 s2 => hb H2 _ (s1.trans s2) fun H3 s3 => ⟨n, m, rfl, rfl, f n m, rfl, by
    cases e : f n m with
    | true =>
      rw [e] at k
      exact iteT (hc H3 _ ((s1.trans s2).trans s3) fun H4 s4 => ⟨m, q, rfl, rfl, k H4 ((s2.trans s3).trans s4)⟩)
    | false =>
      rw [e] at k
      exact iteF (k H3 (s2.trans s3))⟩
theorem ev_is {U : String} (h : EvD K te σ H d) (hU : U ∈ ["int", "bool", "tuple", "list"]) : EvV (tCB (rIsD K) (tCons te (tCons (tC (.ty U)) tNil))) σ H (.bl (isD d U)) := fun H1 Q s1 k => h H1 _ s1 fun v H2 s2 d2 => ⟨v, d, U, rfl, d2, hU, k H2 s2⟩
theorem ev_ne (ha : EvD K ta σ H d) (hb : EvD K tb σ H e) (hd : SeqAt.shaped d = true) (he : SeqAt.shaped e = true) : EvV (tOp (rNeD K) ta tb) σ H (.bl (!PyData.eqv d e)) := fun H1 Q s1 k =>
  ha H1 _ s1 fun v H2 s2 d2 => hb H2 _ (s1.trans s2) fun u H3 s3 d3 => ⟨d, e, dp_same s3 _ _ d2, d3, hd, he, k H3 (s2.trans s3)⟩
theorem ev_eq (ha : EvD K ta σ H d) (hb : EvD K tb σ H e) (hd : SeqAt.shaped d = true) (he : SeqAt.shaped e = true) : EvV (tOp (rEqD K) ta tb) σ H (.bl (PyData.eqv d e)) := fun H1 Q s1 k =>
  ha H1 _ s1 fun v H2 s2 d2 => hb H2 _ (s1.trans s2) fun u H3 s3 d3 => ⟨d, e, dp_same s3 _ _ d2, d3, hd, he, k H3 (s2.trans s3)⟩
theorem ev_all {bs : List Bool} (h : EvD K te σ H (.list (bs.map PyData.bool))) : EvV (tCB (rAll K) (tCons te tNil)) σ H (.bl (bs.all id)) := fun H1 Q s1 k => h H1 _ s1 fun v H2 s2 d2 => by
  cases d2 with
  | lst hs ha =>
    rw [dpa_bools ha] at hs
    exact ⟨_, bs, rfl, hs, k H2 s2⟩
theorem ev_lenT (h : EvD K te σ H (.tuple ds)) : EvV (tCB (rLenK K) (tCons te tNil)) σ H (.int (ds.length : Int)) := fun H1 Q s1 k => h H1 _ s1 fun v H2 s2 d2 => by
  cases d2 with
  | tup hs ha => exact ⟨_, _, rfl, .inr hs, by rw [dpa_len ha]; exact k H2 s2⟩
theorem ev_lenL (h : EvD K te σ H (.list ds)) : EvV (tCB (rLenK K) (tCons te tNil)) σ H (.int (ds.length : Int)) := fun H1 Q s1 k => h H1 _ s1 fun v H2 s2 d2 => by
  cases d2 with
  | lst hs ha => exact ⟨_, _, rfl, .inl hs, by rw [dpa_len ha]; exact k H2 s2⟩
theorem ev_sumT {ns : List Int} (h : EvD K te σ H (.tuple (ns.map PyData.int))) : EvV (tCB (rSumT K) (tCons te tNil)) σ H (.int ns.sum) := fun H1 Q s1 k => h H1 _ s1 fun v H2 s2 d2 => by
  cases d2 with
  | tup hs ha =>
    rw [dpa_ints_eq ha] at hs
    exact ⟨_, ns, rfl, hs, k H2 s2⟩
/-! ### a step of a body -/
theorem ifNo (h : EvB tt σ H false) (k : ∀ H1, Same H H1 → u D σ H1) : tSeq (tIfS tt w tNext) u D σ H := h H _ (Same.refl H) fun H1 s => iteF (k H1 s)
theorem dropD (h : EvD K te σ H d) (k : ∀ H1, Same H H1 → u D σ H1) : tSeq (tDrop te) u D σ H := h H _ (Same.refl H) fun _ H1 s _ => k H1 s
theorem dropV (h : EvV te σ H v) (k : ∀ H1, Same H H1 → u D σ H1) : tSeq (tDrop te) u D σ H := h H _ (Same.refl H) fun H1 s => k H1 s
/-! ### calls -/
theorem evd_call {sp : Sp} (h : EvDs K tas σ H ds) (hsp : ∀ vs H1 (Q : VK), Same H H1 → DpAll K H1 vs ds → (∀ v H2, Same H1 H2 → Dp K H2 v d → Q v H2) → sp vs H1 Q E0) : EvD K (tCall sp [] E0 tas) σ H d := fun H1 Q s1 k => h H1 _ s1 fun vs H2 s2 d2 => by
  show sp (vs ++ []) H2 Q E0
  rw [List.append_nil]
  exact hsp vs H2 Q (s1.trans s2) d2 fun v H3 s3 d3 => k v H3 (s2.trans s3) d3
theorem evv_call {sp : Sp} (h : EvDs K tas σ H ds) (hsp : ∀ vs H1 (Q : VK), Same H H1 → DpAll K H1 vs ds → (∀ H2, Same H1 H2 → Q v H2) → sp vs H1 Q E0) : EvV (tCall sp [] E0 tas) σ H v := fun H1 Q s1 k => h H1 _ s1 fun vs H2 s2 d2 => by
  show sp (vs ++ []) H2 Q E0
  rw [List.append_nil]
  exact hsp vs H2 Q (s1.trans s2) d2 fun H3 s3 => k H3 (s2.trans s3)
theorem evo_call {sp : Sp} (h : EvDs K tas σ H ds) (hsp : ∀ vs H1 (Q : VK), Same H H1 → DpAll K H1 vs ds → (∀ p us H2, H1 p = none → Same H1 H2 → H2 p = some (.lst us) → DpAll K H2 us es → Q (.ref p) H2) → sp vs H1 Q E0) : EvO K (tCall sp [] E0 tas) σ H es := fun H1 Q s1 k => h H1 _ s1 fun vs H2 s2 d2 => by
  show sp (vs ++ []) H2 Q E0
  rw [List.append_nil]
  exact hsp vs H2 Q (s1.trans s2) d2 fun p us H3 n3 s3 e3 d3 => k p us H3 (s2.free n3) (s2.trans s3) e3 d3
/-! ### a comprehension over a tuple, over a range -/
theorem evo_lcT {j : Nat} {w : PyData} (keep : PyData → Bool) (g : PyData → PyData) (hs : EvD K te σ H (.tuple ds)) (hz : ds.length ≤ 100000)
    (ht : ∀ x d H1 (R : Bool → Hp → Prop), d ∈ ds → Same H H1 → Dp K H1 x d → (∀ H2, Same H1 H2 → R (keep d) H2) → tt ((wipe σ [j]).set j (some x)) H1 R)
    (he : ∀ x d H1 D (R : VK), d ∈ ds → keep d = true → Same H H1 → Dp K (erase D H1) x d → (∃ acc, H1 D = some (.lst acc)) → Same H (erase D H1) → (∀ y H2, Same H1 H2 → Dp K (erase D H2) y (g d) → R y H2) → tb ((wipe σ [j]).set j (some x)) H1 R) :
    EvO K (tLc (iTup K te) (gName j) tt tb [j]) σ H ((ds.filter keep).map g) := fun H1 Q s1 k => by
  show te σ H1 fun x H1 => tLc (iTup K (tC x)) (gName j) tt tb [j] σ H1 Q
  refine hs H1 _ s1 fun v H2 s2 d2 => ?_
  cases d2 with
  | tup hq d2 =>
  rename_i p vs
  have hl := dpa_len d2
  refine lc_dpT (fun n => keep (ds.getD n w)) (fun n => g (ds.getD n w)) (fun R h => h) hq (by omega) (fun n x H3 R e3 s3 k3 => ?_) (fun n x H3 D R e3 kp hD hacc s3 k3 => ?_) (fun D acc H3 hD s3 e3 d3 => ?_)
  · obtain ⟨d, ed, hx⟩ := dpa_get2 d2 e3
    rw [getD_of ed] at k3
    exact ht x d H3 R (List.mem_of_getElem? ed) ((s1.trans s2).trans s3) (dp_same s3 _ _ hx) k3
  · obtain ⟨d, ed, hx⟩ := dpa_get2 d2 e3
    rw [getD_of ed] at k3 kp
    exact he x d H3 D R (List.mem_of_getElem? ed) kp ((s1.trans s2).trans s3) (dp_same (same_erase s3 hD) _ _ hx) hacc ((s1.trans s2).trans (same_erase s3 hD)) k3
  · refine k D acc H3 (s2.free hD) (s2.trans s3) e3 ?_
    have e0 : (List.range ds.length).map (fun n => ds.getD n w) = ds := by
      have := range_get ds (fun d => d) w
      rw [List.map_id'] at this
      exact this
    have ez : ((List.range vs.length).filter fun n => keep (ds.getD n w)).map (fun n => g (ds.getD n w)) = (ds.filter keep).map g := by
      rw [hl]
      calc ((List.range ds.length).filter fun n => keep (ds.getD n w)).map (fun n => g (ds.getD n w))
          = (((List.range ds.length).filter (keep ∘ fun n => ds.getD n w)).map (fun n => ds.getD n w)).map g := by rw [List.map_map]; rfl
        _ = (((List.range ds.length).map (fun n => ds.getD n w)).filter keep).map g := by rw [List.filter_map]
        _ = (ds.filter keep).map g := by rw [e0]
    rw [ez] at d3
    exact d3
theorem evo_lcR {j m : Nat} (keep : Nat → Bool) (g : Nat → PyData) (hs : EvV te σ H (.int (m : Int))) (hz : m ≤ 100000)
    (ht : ∀ n H1 (R : Bool → Hp → Prop), n < m → Same H H1 → (∀ H2, Same H1 H2 → R (keep n) H2) → tt ((wipe σ [j]).set j (some (.int (n : Int)))) H1 R)
    (he : ∀ n H1 D (R : VK), n < m → keep n = true → Same H H1 → (∃ acc, H1 D = some (.lst acc)) → Same H (erase D H1) → (∀ y H2, Same H1 H2 → Dp K (erase D H2) y (g n) → R y H2) → tb ((wipe σ [j]).set j (some (.int (n : Int)))) H1 R) :
    EvO K (tLc (iRng1 (tCons te tNil)) (gName j) tt tb [j]) σ H (((List.range m).filter keep).map g) := fun H1 Q s1 k => by
  show te σ H1 fun x H1 => tLc (iRng1 (tCons (tC x) tNil)) (gName j) tt tb [j] σ H1 Q
  refine hs H1 _ s1 fun H2 s2 => ?_
  refine lc_dpR (K := K) (m := m) keep g (fun R h => h) hz (fun n H3 R e3 s3 k3 => ht n H3 R e3 ((s1.trans s2).trans s3) k3) (fun n H3 D R e3 kp hD hacc s3 k3 => he n H3 D R e3 kp ((s1.trans s2).trans s3) hacc ((s1.trans s2).trans (same_erase s3 hD)) k3) (fun D acc H3 hD s3 e3 d3 => ?_)
  exact k D acc H3 (s2.free hD) (s2.trans s3) e3 d3
end
/-! ### data that == may be asked of -/
def ShN (n : Nat) (d : PyData) : Prop := d.canLay0 = true ∧ d.depth ≤ n
theorem ShN.ok {n : Nat} {d : PyData} (h : ShN n d) (hn : n ≤ 64) : SeqAt.shaped d = true := by
  show (d.canLay0 && decide (d.depth ≤ 64)) = true
  rw [h.1, decide_eq_true (Nat.le_trans h.2 hn)]
  rfl
theorem sh_int {n : Nat} (i : Int) : ShN n (.int i) := ⟨by simp only [PyData.canLay0], by simp only [PyData.depth]; exact Nat.zero_le n⟩
theorem sh_bool {n : Nat} (b : Bool) : ShN n (.bool b) := ⟨by simp only [PyData.canLay0], by simp only [PyData.depth]; exact Nat.zero_le n⟩
theorem sh_none {n : Nat} : ShN n .none := ⟨by simp only [PyData.canLay0], by simp only [PyData.depth]; exact Nat.zero_le n⟩
theorem sh_all {n : Nat} : ∀ {ds : List PyData}, (∀ d ∈ ds, ShN n d) → PyData.canLayAll0 ds = true ∧ PyData.depthAll ds ≤ n
  | [], _ => ⟨by simp only [PyData.canLayAll0], by simp only [PyData.depthAll]; exact Nat.zero_le n⟩
  | d :: ds, h => by
    have h1 := h d List.mem_cons_self
    have h2 := sh_all fun e he => h e (List.mem_cons_of_mem _ he)
    refine ⟨?_, ?_⟩
    · simp only [PyData.canLayAll0, h1.1, h2.1, Bool.and_self]
    · simp only [PyData.depthAll]
      exact Nat.max_le.mpr ⟨h1.2, h2.2⟩
theorem sh_tup {n : Nat} {ds : List PyData} (h : ∀ d ∈ ds, ShN n d) : ShN (n + 1) (.tuple ds) := by
  have h2 := sh_all h
  exact ⟨by simp only [PyData.canLay0, h2.1], by simp only [PyData.depth]; exact Nat.succ_le_succ h2.2⟩
theorem sh_lst {n : Nat} {ds : List PyData} (h : ∀ d ∈ ds, ShN n d) : ShN (n + 1) (.list ds) := by
  have h2 := sh_all h
  exact ⟨by simp only [PyData.canLay0, h2.1], by simp only [PyData.depth]; exact Nat.succ_le_succ h2.2⟩
theorem sh_ints {n : Nat} {ns : List Int} : ∀ d ∈ ns.map PyData.int, ShN n d := fun d hd => by
  obtain ⟨i, _, rfl⟩ := List.mem_map.mp hd
  exact sh_int i
theorem sh_plan {cs : List Int} {g : Int} : ShN 2 (planD cs g) := sh_tup fun d hd => by
  simp only [List.mem_cons, List.not_mem_nil, or_false] at hd
  rcases hd with rfl | rfl
  · exact sh_tup sh_ints
  · exact sh_int g
theorem eqv_self {n : Nat} {d : PyData} (h : ShN n d) : PyData.eqv d d = true := SeqAt.eqv_refl d h.1
/-! ### a def that may raise, called where it does not -/
theorem passN {X : Cx} : Passes (L2N.CX X.prog X.w) X E0 := fun _ _ _ _ _ _ _ h => by
  obtain ⟨_, _, _, _, _, _, _, _, _, _, _, _, z⟩ := h
  exact z.elim
section
variable {X : Cx} {k : Nat} {x : Str} {ps : List Str} {sp : Sp} {e : Expr} {es : List Expr} {t : TA} {p pos : Pos}
theorem pe_fN (C : Cal X.prog X.w X.K X.mg X.base (L2N.CX X.prog X.w) k x ps sp) (hr : Room k X.A) (ha : PA X (e :: es) t) (hg : Gl X x := by rfl) (hdb : (x == ("__debug__" : Str)) = false := by decide)
    (he : starEach (e :: es) X.env = (false, eval e X.env) :: starEach es X.env := by rfl) (hpl : (backTo pos (starEach es X.env)).any (·.1) = false := by rfl) :
    PE X (.Call (.Name x p) (e :: es) [] pos) (tCall sp [] E0 t) := by
  obtain ⟨f, fd, F, hm, hk, hb⟩ := C.ex
  exact pe_call F hr hg hm hk hb .nil passN ha hdb he hpl
end
section
variable {K : PySem.W.Frag} {tas : TA} {σ : L2.St} {H : Hp} {d : PyData} {ds : List PyData}
theorem evd_X {n : Nat} {f : List PyData → Except Err PyData} (h : EvDs K tas σ H ds) (hl : ds.length = n) (hf : f ds = .ok d) : EvD K (tCall (PSpX K n f) [] E0 tas) σ H d :=
  evd_call h fun vs H1 Q s1 d1 k => ⟨ds, d1, hl, fun r hr v H2 s2 d2 => k v H2 s2 (by rw [hf] at hr; cases hr; exact d2), fun e he => by rw [hf] at he; cases he⟩
end
/-! ### more of expressions -/
def isNone : PyData → Bool
  | .none => true
  | _ => false
section
variable {K : PySem.W.Frag} {te ta tb : TE} {tt : TT} {tas tr : TA} {σ : L2.St} {H H' : Hp} {d e : PyData} {ds es : List PyData} {v x y : V} {i j : Nat} {u w tw : TS} {D : Ends} {n : Int} {cs : List Int}
theorem dp_isNone (h : Dp K H v d) : decide (v = .non) = isNone d := by
  cases h with
  | non => rfl
  | _ => exact decide_eq_false fun z => nomatch z
theorem ev_isN (h : EvD K te σ H d) : EvV (tOp (fun x y H Q => y = V.non ∧ Q (V.bl (decide (x = V.non))) H) te (tC .non)) σ H (.bl (isNone d)) := fun H1 Q s1 k => h H1 _ s1 fun v H2 s2 d2 => ⟨rfl, by rw [dp_isNone d2]; exact k H2 s2⟩
theorem ev_notN (h : EvD K te σ H d) : EvV (tOp (fun x y H Q => y = V.non ∧ Q (V.bl (!decide (x = V.non))) H) te (tC .non)) σ H (.bl (!isNone d)) := fun H1 Q s1 k => h H1 _ s1 fun v H2 s2 d2 => ⟨rfl, by rw [dp_isNone d2]; exact k H2 s2⟩
theorem evo_takeL (h : EvD K te σ H (.list ds)) (hn : EvV ta σ H (.int n)) (h0 : 0 ≤ n) (h1 : n ≤ ds.length) : EvO K (tSl (rSlL K) te tNoPart (tPart ta)) σ H (ds.take n.toNat) := fun H1 Q s1 k =>
  h H1 _ s1 fun v H2 s2 d2 => hn H2 _ (s1.trans s2) fun H3 s3 => ⟨n, rfl, by
    cases d2 with
    | lst hs ha => exact ⟨_, _, rfl, s3.seq hs, fun p np => k p _ _ ((s2.trans s3).free np) ((s2.trans s3).trans (same_upd np)) upd_same (by
        rw [cut_take h0 (by rw [dpa_len ha]; exact h1)]
        exact dpa_take (dpa_same (s3.trans (same_upd np)) _ _ ha))⟩⟩
theorem evo_dropL (h : EvD K te σ H (.list ds)) (hn : EvV ta σ H (.int n)) (h0 : 0 ≤ n) (h1 : n ≤ ds.length) : EvO K (tSl (rSlL K) te (tPart ta) tNoPart) σ H (ds.drop n.toNat) := fun H1 Q s1 k =>
  h H1 _ s1 fun v H2 s2 d2 => hn H2 _ (s1.trans s2) fun H3 s3 => ⟨n, rfl, by
    cases d2 with
    | lst hs ha => exact ⟨_, _, rfl, s3.seq hs, fun p np => k p _ _ ((s2.trans s3).free np) ((s2.trans s3).trans (same_upd np)) upd_same (by
        rw [cut_drop h0 (by rw [dpa_len ha]; exact h1)]
        exact dpa_drop (dpa_same (s3.trans (same_upd np)) _ _ ha))⟩⟩
theorem evo_rep (h : EvK K ta σ H ds) (hn : EvV tb σ H (.int n)) (h0 : -1000000 ≤ n) (h1 : n ≤ 100000) (hl : ds.length * n.toNat ≤ 100000) : EvO K (tOp rRep ta tb) σ H (List.replicate n.toNat ds).flatten := fun H1 Q s1 k =>
  h H1 _ s1 fun p vs H2 s2 e2 d2 => hn H2 _ (s1.trans s2) fun H3 s3 => ⟨p, n, vs, rfl, rfl, s3 _ _ e2, by omega, by omega, by rw [dpa_len d2]; exact Nat.le_trans hl (by decide), fun l nl =>
    k l _ _ ((s2.trans s3).free nl) ((s2.trans s3).trans (same_upd nl)) upd_same (dpa_rep (dpa_same (s3.trans (same_upd nl)) _ _ d2) _)⟩
theorem evd_takeI (h : EvD K te σ H (.tuple (cs.map PyData.int))) (hn : EvV ta σ H (.int n)) (h0 : 0 ≤ n) (h1 : n ≤ cs.length) : EvD K (tSl (rSlA K) te tNoPart (tPart ta)) σ H (.tuple ((cs.take n.toNat).map PyData.int)) := by
  rw [List.map_take]
  exact evd_take h hn h0 (by rw [List.length_map]; exact h1)
theorem EvD.is (h : EvD K te σ H d) (q : d = e) : EvD K te σ H e := q ▸ h
theorem EvO.is (h : EvO K te σ H ds) (q : ds = es) : EvO K te σ H es := q ▸ h
/-- a for over a list that stays -/
theorem forL {a : Addr} {xs : List V} (he : EvV te σ H (.ref a)) (hx : SqL K H a xs) (Pv : Nat → L2.St → Hp → Prop) (h0 : ∀ H1, Same H H1 → Pv 0 σ H1) (hl : ∀ i σ' H', Pv i σ' H' → SqL K H' a xs)
    (hs : ∀ i x σ' H', xs[i]? = some x → Pv i σ' H' → tw { nx := Pv (i + 1), rt := D.rt, bk := u D, ct := Pv (i + 1) } (σ'.set j (some x)) H') (hd : ∀ σ' H', Pv xs.length σ' H' → u D σ' H') : tSeq (tFor (iList K te) (gName j) tw) u D σ H :=
  he H _ (Same.refl H) fun H1 s1 => ⟨a, rfl, ⟨xs, s1.seq hx⟩, for_list (K := K) (a := a) (xs := xs) (D := { D with nx := u D }) Pv (h0 H1 s1) (fun i σ' H' _ p => hl i σ' H' p) (fun i x σ' H' e p => hs i x σ' H' e p) hd⟩
theorem asgLast (h : EvV te σ H v) (k : ∀ H1, Same H H1 → D.nx (σ.set i (some v)) H1) : tAsg te (gName i) D σ H := h H _ (Same.refl H) fun H1 s => k H1 s
theorem asgLastD (h : EvD K te σ H d) (k : ∀ v H1, Same H H1 → Dp K H1 v d → D.nx (σ.set i (some v)) H1) : tAsg te (gName i) D σ H := h H _ (Same.refl H) fun v H1 s d => k v H1 s d
end
/-! ### the plan behind some signs -/
def after (cs : List Int) (g : Int) (ss : List Int) : List Int := ss.foldl (fun c s => grown c g s) cs
theorem after_snoc (cs : List Int) (g : Int) (ss : List Int) (s : Int) : after cs g (ss ++ [s]) = grown (after cs g ss) g s := by
  unfold after
  rw [List.foldl_append]
  rfl
theorem after_ok {cs : List Int} {g : Int} (p : Plan cs g) : ∀ {ss : List Int}, (∀ s ∈ ss, 0 ≤ s ∧ s < cs.length) → Plan (after cs g ss) g ∧ (after cs g ss).length = cs.length := by
  intro ss
  induction ss generalizing cs with
  | nil => exact fun _ => ⟨p, rfl⟩
  | cons s r ih =>
    intro h
    have h1 := h s List.mem_cons_self
    have h2 := ih (p.grown h1.1 h1.2) fun t ht => by
      rw [grown_len]
      exact h t (List.mem_cons_of_mem _ ht)
    exact ⟨h2.1, h2.2.trans (grown_len ..)⟩
theorem take_snoc {α : Type} {l : List α} {i : Nat} {x : α} (h : l[i]? = some x) : l.take (i + 1) = l.take i ++ [x] := by
  rw [List.take_add_one, h]
  rfl
end Pl

namespace Pl
open PySem PySem.Spec PyProof.Rows L2
/-! ### stretches -/
structure S3 where
  l : Int
  w : Int
  t : Int
def S3.d (s : S3) : PyData := .tuple [.int s.l, .int s.w, .int s.t]
def S3.by (s : S3) (b c q : Int) : S3 := ⟨s.l * q + s.w * b, s.w * c, s.t * q⟩
def whole3 : S3 := ⟨0, 1, 1⟩
/-- a stretch, all of it below 2 ^ n -/
structure S3.Ok (s : S3) (n : Nat) : Prop where
  l0 : 0 ≤ s.l
  w1 : 1 ≤ s.w
  lw : s.l + s.w ≤ s.t
  tn : s.t < 2 ^ n
theorem whole_ok : whole3.Ok 1 := ⟨by decide, by decide, by decide, by decide⟩
theorem pow_nat (n : Nat) : ((2 ^ n : Nat) : Int) = 2 ^ n := by
  rw [Int.natCast_pow]
  rfl
theorem abs_lt {i : Int} {n : Nat} (h0 : 0 ≤ i) (h : i < 2 ^ n) : i.natAbs < 2 ^ n := by
  have e := pow_nat n
  omega
theorem S3.Ok.t1 {s : S3} {n : Nat} (h : s.Ok n) : 1 ≤ s.t := by
  have := h.l0; have := h.w1; have := h.lw
  omega
theorem S3.Ok.labs {s : S3} {n : Nat} (h : s.Ok n) : s.l.natAbs < 2 ^ n := abs_lt h.l0 (by have := h.w1; have := h.lw; have := h.tn; omega)
theorem S3.Ok.wabs {s : S3} {n : Nat} (h : s.Ok n) : s.w.natAbs < 2 ^ n := abs_lt (by have := h.w1; omega) (by have := h.l0; have := h.lw; have := h.tn; omega)
theorem S3.Ok.tabs {s : S3} {n : Nat} (h : s.Ok n) : s.t.natAbs < 2 ^ n := abs_lt (by have := h.t1; omega) h.tn
theorem S3.Ok.lwabs {s : S3} {n : Nat} (h : s.Ok n) : (s.l + s.w).natAbs < 2 ^ n := abs_lt (by have := h.l0; have := h.w1; omega) (by have := h.lw; have := h.tn; omega)
theorem pow_mono {m n : Nat} (h : m ≤ n) : (2 : Int) ^ m ≤ 2 ^ n := by
  rw [← pow_nat, ← pow_nat]
  exact Int.ofNat_le.mpr (Nat.pow_le_pow_right (by decide) h)
theorem S3.Ok.mono {s : S3} {m n : Nat} (h : s.Ok m) (hn : m ≤ n) : s.Ok n := ⟨h.l0, h.w1, h.lw, Int.lt_of_lt_of_le h.tn (pow_mono hn)⟩
/-- what a share is: below, count, total -/
structure Share (b c q : Int) : Prop where
  b0 : 0 ≤ b
  c1 : 1 ≤ c
  bc : b + c ≤ q
  q8 : q ≤ 8000000
theorem S3.Ok.by_ok {s : S3} {n : Nat} {b c q : Int} (h : s.Ok n) (hs : Share b c q) : (s.by b c q).Ok (n + 23) := by
  have l0 := h.l0; have w1 := h.w1; have lw := h.lw; have tn := h.tn; have t1 := h.t1
  have b0 := hs.b0; have c1 := hs.c1; have bc := hs.bc; have q8 := hs.q8
  have m1 : 0 ≤ s.l * q := Int.mul_nonneg l0 (by omega)
  have m2 : 0 ≤ s.w * b := Int.mul_nonneg (by omega) b0
  have m3 : s.w * 1 ≤ s.w * c := Int.mul_le_mul_of_nonneg_left c1 (by omega)
  have m4 : s.w * (b + c) ≤ s.w * q := Int.mul_le_mul_of_nonneg_left bc (by omega)
  have m5 : (s.l + s.w) * q ≤ s.t * q := Int.mul_le_mul_of_nonneg_right lw (by omega)
  have m6 : s.t * q ≤ s.t * 8000000 := Int.mul_le_mul_of_nonneg_left q8 (by omega)
  rw [Int.mul_add] at m4
  rw [Int.add_mul] at m5
  have e : (2 : Int) ^ (n + 23) = 2 ^ n * 8388608 := by rw [Int.pow_add]; rfl
  refine ⟨?_, ?_, ?_, ?_⟩
  · show 0 ≤ s.l * q + s.w * b
    omega
  · show 1 ≤ s.w * c
    omega
  · show s.l * q + s.w * b + s.w * c ≤ s.t * q
    omega
  · show s.t * q < 2 ^ (n + 23)
    rw [e]
    omega
/-! ### sums of counts -/
theorem sum_nonneg : ∀ {l : List Int}, (∀ c ∈ l, 0 ≤ c) → 0 ≤ l.sum
  | [], _ => Int.le_refl 0
  | c :: r, h => by
    rw [List.sum_cons]
    have := h c List.mem_cons_self
    have := sum_nonneg fun d hd => h d (List.mem_cons_of_mem _ hd)
    omega
theorem sum_le : ∀ {l : List Int} {m : Int}, (∀ c ∈ l, c ≤ m) → l.sum ≤ l.length * m
  | [], m, _ => by simp
  | c :: r, m, h => by
    rw [List.sum_cons, List.length_cons]
    have h1 := h c List.mem_cons_self
    have h2 := sum_le fun d hd => h d (List.mem_cons_of_mem _ hd)
    have e : ((r.length + 1 : Nat) : Int) * m = r.length * m + m := by rw [Int.natCast_add, Int.add_mul]; simp
    omega
theorem sum_split {l : List Int} {i : Nat} (h : i < l.length) : l.sum = (l.take i).sum + l.getD i 0 + (l.drop (i + 1)).sum := by
  have e : l = l.take i ++ l.getD i 0 :: l.drop (i + 1) := by
    rw [List.getD_eq_getElem?_getD, List.getElem?_eq_getElem h]
    simp
  conv => lhs; rw [e]
  rw [List.sum_append, List.sum_cons]
  omega
theorem plan_share {cs : List Int} {g s : Int} (p : Plan cs g) (h0 : 0 ≤ s) (h1 : s < cs.length) : Share (belowOf cs s) (nth cs s) cs.sum := by
  have hi : s.toNat < cs.length := by omega
  have e := sum_split hi
  have n1 := p.nth h0 h1
  have a1 : 0 ≤ (cs.take s.toNat).sum := sum_nonneg fun c hc => by have := p.pos c (List.mem_of_mem_take hc); omega
  have a2 : 0 ≤ (cs.drop (s.toNat + 1)).sum := sum_nonneg fun c hc => by have := p.pos c (List.mem_of_mem_drop hc); omega
  have a3 := sum_le (l := cs) (m := 1000000) fun c hc => (p.pos c hc).2
  have e8 := p.eight
  refine ⟨a1, n1.1, ?_, ?_⟩
  · show (cs.take s.toNat).sum + cs.getD s.toNat 0 ≤ cs.sum
    omega
  · have : (cs.length : Int) * 1000000 ≤ 8 * 1000000 := Int.mul_le_mul_of_nonneg_right (by omega) (by omega)
    omega
/-! ### the stretch of a text -/
def strOf (s : S3) (cs : List Int) (g : Int) : List Int → S3
  | [] => s
  | x :: r => strOf (s.by (belowOf cs x) (nth cs x) cs.sum) (grown cs g x) g r
theorem strOf_snoc (g x : Int) : ∀ (ss : List Int) (s : S3) (cs : List Int), strOf s cs g (ss ++ [x]) = (strOf s cs g ss).by (belowOf (after cs g ss) x) (nth (after cs g ss) x) (after cs g ss).sum
  | [], s, cs => rfl
  | y :: r, s, cs => strOf_snoc g x r _ _
theorem strOf_ok {g : Int} : ∀ {ss : List Int} {s : S3} {cs : List Int} {n : Nat}, Plan cs g → s.Ok n → (∀ x ∈ ss, 0 ≤ x ∧ x < cs.length) → (strOf s cs g ss).Ok (n + 23 * ss.length)
  | [], s, cs, n, _, h, _ => h
  | x :: r, s, cs, n, p, h, hx => by
    have h1 := hx x List.mem_cons_self
    have h2 := strOf_ok (p.grown h1.1 h1.2) (h.by_ok (plan_share p h1.1 h1.2)) fun y hy => by
      rw [grown_len]
      exact hx y (List.mem_cons_of_mem _ hy)
    refine h2.mono ?_
    rw [List.length_cons]
    omega
def textS (cs : List Int) (g : Int) (ss : List Int) : S3 := strOf whole3 cs g ss
theorem textS_ok {cs : List Int} {g : Int} {ss : List Int} (p : Plan cs g) (h : Text cs.length ss) : (textS cs g ss).Ok 1400 :=
  (strOf_ok p whole_ok fun x hx => by have := h.2 x hx; omega).mono (by have := h.1; omega)
/-! ### the stretch of figures -/
def numOf (fs : List Int) : Int := fs.foldl (fun n f => 2 * n + f) 0
def figS (fs : List Int) : S3 := ⟨numOf fs, 1, 2 ^ fs.length⟩
def Bits (fs : List Int) : Prop := ∀ f ∈ fs, 0 ≤ f ∧ f ≤ 1
theorem numOf_snoc (fs : List Int) (f : Int) : numOf (fs ++ [f]) = 2 * numOf fs + f := by
  unfold numOf
  rw [List.foldl_append]
  rfl
theorem foldl_snoc_ind {P : List Int → Prop} (h0 : P []) (h1 : ∀ l x, P l → P (l ++ [x])) (l : List Int) : P l := by
  rw [← List.reverse_reverse l]
  induction l.reverse with
  | nil => exact h0
  | cons x r ih =>
    rw [List.reverse_cons]
    exact h1 _ _ ih
theorem numOf_ok (fs : List Int) : Bits fs → 0 ≤ numOf fs ∧ numOf fs < 2 ^ fs.length := by
  refine foldl_snoc_ind (P := fun fs => Bits fs → 0 ≤ numOf fs ∧ numOf fs < 2 ^ fs.length) (fun _ => by decide) (fun l x ih h => ?_) fs
  have h1 := ih fun f hf => h f (List.mem_append_left _ hf)
  have h2 := h x (by simp)
  rw [numOf_snoc, List.length_append, List.length_singleton, Int.pow_succ]
  omega
theorem figS_ok {fs : List Int} (h : Bits fs) : (figS fs).Ok (fs.length + 1) := by
  have h1 := numOf_ok fs h
  refine ⟨h1.1, Int.le_refl 1, ?_, ?_⟩
  · show numOf fs + 1 ≤ 2 ^ fs.length
    omega
  · show (2 : Int) ^ fs.length < 2 ^ (fs.length + 1)
    rw [Int.pow_succ]
    have : (0 : Int) < 2 ^ fs.length := Int.pow_pos (by decide)
    omega
/-! ### within -/
def withinB (a b : S3) : Bool := !decide (a.l * b.t < b.l * a.t) && decide ((a.l + a.w) * b.t ≤ (b.l + b.w) * a.t)
theorem S3.at {K : PySem.W.Frag} {H : Hp} {v : V} {s : S3} (h : Dp K H v s.d) : ∃ a, v = .ref a ∧ SqT K H a [.int s.l, .int s.w, .int s.t] := by
  cases h with
  | tup hs ha =>
    cases ha with
    | cons h1 h2 => cases h2 with
      | cons h2 h3 => cases h3 with
        | cons h3 h4 =>
          cases h4
          cases dp_int h1
          cases dp_int h2
          cases dp_int h3
          exact ⟨_, rfl, hs⟩
theorem s3_sh {n : Nat} (s : S3) : ShN (n + 1) s.d := sh_tup fun d hd => by
  simp only [List.mem_cons, List.not_mem_nil, or_false] at hd
  rcases hd with rfl | rfl | rfl <;> exact sh_int _
/-! ### a tuple taken apart -/
section
variable {K : PySem.W.Frag} {te : TE} {σ : L2.St} {H : Hp} {u : TS} {D : Ends} {i j k : Nat} {d1 d2 d3 : PyData}
theorem unp2 (h : EvD K te σ H (.tuple [d1, d2])) (q : ∀ v1 v2 H1, Same H H1 → Dp K H1 v1 d1 → Dp K H1 v2 d2 → u D ((σ.set i (some v1)).set j (some v2)) H1) : tSeq (tAsg te (gTup K 2 (gCons (gName i) (gCons (gName j) gNil)))) u D σ H :=
  h H _ (Same.refl H) fun v H1 s1 dv => by
    cases dv with
    | tup hs ha => cases ha with
      | cons a1 a2 => cases a2 with
        | cons a2 a3 =>
          cases a3
          exact ⟨_, _, rfl, hs, rfl, _, _, rfl, _, _, rfl, rfl, q _ _ H1 s1 a1 a2⟩
theorem unp3 (h : EvD K te σ H (.tuple [d1, d2, d3])) (q : ∀ v1 v2 v3 H1, Same H H1 → Dp K H1 v1 d1 → Dp K H1 v2 d2 → Dp K H1 v3 d3 → u D (((σ.set i (some v1)).set j (some v2)).set k (some v3)) H1) : tSeq (tAsg te (gTup K 3 (gCons (gName i) (gCons (gName j) (gCons (gName k) gNil))))) u D σ H :=
  h H _ (Same.refl H) fun v H1 s1 dv => by
    cases dv with
    | tup hs ha => cases ha with
      | cons a1 a2 => cases a2 with
        | cons a2 a3 => cases a3 with
          | cons a3 a4 =>
            cases a4
            exact ⟨_, _, rfl, hs, rfl, _, _, rfl, _, _, rfl, _, _, rfl, rfl, q _ _ _ H1 s1 a1 a2 a3⟩
theorem unpS {s : S3} (h : EvD K te σ H s.d) (q : ∀ H1, Same H H1 → u D (((σ.set i (some (.int s.l))).set j (some (.int s.w))).set k (some (.int s.t))) H1) : tSeq (tAsg te (gTup K 3 (gCons (gName i) (gCons (gName j) (gCons (gName k) gNil))))) u D σ H :=
  unp3 h fun v1 v2 v3 H1 s1 a1 a2 a3 => by
    rw [dp_int a1, dp_int a2, dp_int a3]
    exact q H1 s1
end
section
variable {K : PySem.W.Frag} {tas : TA} {te : TE} {σ : L2.St} {H : Hp} {d x : PyData} {ds : List PyData} {u : TS} {D : Ends}
theorem evd_XS {n : Nat} {f : List PyData → Except Err PyData} {E : L2.St → XK} (h : EvDs K tas σ H ds) (hl : ds.length = n) (hf : f ds = .ok d) : EvD K (tCallS (PSpX K n f) E tas) σ H d := fun H1 Q s1 k => h H1 _ s1 fun vs H2 s2 d2 =>
  ⟨ds, d2, hl, fun r hr v H3 s3 d3 => k v H3 (s2.trans s3) (by rw [hf] at hr; cases hr; exact d3), fun e he => by rw [hf] at he; cases he⟩
/-- a call that may raise, as a statement: both ways -/
theorem dropX {n : Nat} {f : List PyData → Except Err PyData} {E : L2.St → XK} (h : EvDs K tas σ H ds) (hl : ds.length = n) (hok : ∀ r H1, f ds = .ok r → Same H H1 → u D σ H1) (her : ∀ e H1, f ds = .error e → Same H H1 → E σ (.ref (errC K e)) none H1) : tSeq (tDrop (tCallS (PSpX K n f) E tas)) u D σ H :=
  h H _ (Same.refl H) fun vs H2 s2 d2 => ⟨ds, d2, hl, fun r hr v H3 s3 d3 => hok r H3 hr (s2.trans s3), fun e he H3 s3 => her e H3 he (s2.trans s3)⟩
end
theorem data_nth {cs : List Int} {s : Int} (h0 : 0 ≤ s) (h1 : s < cs.length) : (cs.map PyData.int)[s.toNat]? = some (.int (nth cs s)) := by
  have hi : s.toNat < cs.length := by omega
  unfold nth
  rw [List.getElem?_map, List.getElem?_eq_getElem hi, List.getD_eq_getElem?_getD, List.getElem?_eq_getElem hi]
  rfl
theorem exv_ints {K : PySem.W.Frag} {D : Addr} {te : TE} {σ : L2.St} {H : Hp} {ns : List Int} (hD : ∃ acc, H D = some (.lst acc)) (h : EvO K te σ H (ns.map PyData.int)) : EvX K D te σ H (.list (ns.map PyData.int)) := fun H1 Q s1 k => h H1 Q s1 fun p vs H2 n2 s2 e2 d2 => by
  obtain ⟨acc, e⟩ := hD
  have hp : p ≠ D := fun z => by
    rw [z, s1 _ _ e] at n2
    cases n2
  rw [dpa_ints_eq d2] at e2
  exact k _ H2 s2 (.lst (.inl (.inl (by rw [erase_at hp]; exact e2))) (dpa_ints ns))
/-- figures that the laws draw -/
def rowSize (c : Int) : Int := if c / 31 % 16 = 1 then c / 496 % 301 else c % 31
def rowOf (c m : Int) : List Int := (List.range (rowSize c).toNat).map fun (k : Nat) => mixed m (k : Int) / 7 % 2
theorem rowSize_ok (c : Int) : 0 ≤ rowSize c ∧ rowSize c ≤ 300 := by
  unfold rowSize
  split <;> omega
theorem rowOf_bits (c m : Int) : Bits (rowOf c m) := fun f hf => by
  obtain ⟨k, _, rfl⟩ := List.mem_map.mp hf
  omega
theorem rowOf_len (c m : Int) : (rowOf c m).length ≤ 300 := by
  unfold rowOf
  rw [List.length_map, List.length_range]
  have := rowSize_ok c
  omega
theorem numOf_zeros (l : List Int) : ∀ n : Nat, numOf (l ++ List.replicate n 0) = numOf l * 2 ^ n
  | 0 => by simp
  | n + 1 => by
    rw [List.replicate_succ', ← List.append_assoc, numOf_snoc, numOf_zeros l n, Int.pow_succ, Int.add_zero, Int.mul_comm 2, Int.mul_assoc]
theorem wholeData : whole3.d = .tuple [.int 0, .int 1, .int 1] := rfl
theorem isStr (s : S3) : isD s.d "tuple" = true := by
  show ((tyName s.d == "tuple") || _) = true
  rw [show (tyName s.d == "tuple") = true from by show (("tuple" : String) == "tuple") = true; decide]
  rfl
theorem cut_if {tt : TT} {a u : TS} {D : Ends} {σ : L2.St} {H : Hp} {b : Bool} (M : L2.St → Hp → Prop) (h : EvB tt σ H b) (hy : b = true → ∀ H1, Same H H1 → a { D with nx := M } σ H1) (hn : b = false → ∀ H1, Same H H1 → M σ H1) (k : ∀ σ' H', M σ' H' → u D σ' H') : Evl.tCut (tIfS tt a tNext) u D σ H :=
  ⟨M, h H _ (Same.refl H) fun H1 s1 => by
    cases b with
    | true => exact iteT (hy rfl H1 s1)
    | false => exact iteF (hn rfl H1 s1), k⟩
theorem ev_eqI {ta tb : TE} {σ : L2.St} {H : Hp} {n m : Int} (ha : EvV ta σ H (.int n)) (hb : EvV tb σ H (.int m)) : EvV (tOp rEq ta tb) σ H (.bl (decide (n = m))) := fun H1 Q s1 k =>
  ha H1 _ s1 fun H2 s2 => hb H2 _ (s1.trans s2) fun H3 s3 => ⟨rfl, by
    have e : decide (V.int n = V.int m) = decide (n = m) := by
      by_cases z : n = m
      · rw [decide_eq_true z, decide_eq_true (congrArg V.int z)]
      · rw [decide_eq_false z, decide_eq_false fun q => z (V.int.inj q)]
    rw [e]
    exact k H3 (s2.trans s3)⟩
theorem ev_neI {ta tb : TE} {σ : L2.St} {H : Hp} {n m : Int} (ha : EvV ta σ H (.int n)) (hb : EvV tb σ H (.int m)) : EvV (tOp rNe ta tb) σ H (.bl (!decide (n = m))) := fun H1 Q s1 k =>
  ha H1 _ s1 fun H2 s2 => hb H2 _ (s1.trans s2) fun H3 s3 => ⟨rfl, by
    have e : decide (V.int n = V.int m) = decide (n = m) := by
      by_cases z : n = m
      · rw [decide_eq_true z, decide_eq_true (congrArg V.int z)]
      · rw [decide_eq_false z, decide_eq_false fun q => z (V.int.inj q)]
    rw [e]
    exact k H3 (s2.trans s3)⟩
/-- what comes back, or the error's word -/
def outOf : Except Err PyData → PyData
  | .ok d => d
  | .error e => .list [.str (wordOf e)]
theorem dpaN1 {K : PySem.W.Frag} {H : Hp} {vs : List V} {d : PyData} (h : DpAll K H vs [d]) : ∃ v, vs = [v] ∧ Dp K H v d := by
  cases h with
  | cons a1 a2 => cases a2; exact ⟨_, rfl, a1⟩
theorem dpaN2 {K : PySem.W.Frag} {H : Hp} {vs : List V} {d e : PyData} (h : DpAll K H vs [d, e]) : ∃ v u, vs = [v, u] ∧ Dp K H v d ∧ Dp K H u e := by
  cases h with
  | cons a1 a2 =>
    obtain ⟨u, rfl, h2⟩ := dpaN1 a2
    exact ⟨_, u, rfl, a1, h2⟩
theorem dpaN3 {K : PySem.W.Frag} {H : Hp} {vs : List V} {d e r : PyData} (h : DpAll K H vs [d, e, r]) : ∃ v u x, vs = [v, u, x] ∧ Dp K H v d ∧ Dp K H u e ∧ Dp K H x r := by
  cases h with
  | cons a1 a2 =>
    obtain ⟨u, x, rfl, h2, h3⟩ := dpaN2 a2
    exact ⟨_, u, x, rfl, a1, h2, h3⟩
theorem wordEq (e : Err) : PyData.eqv (.list [.str (wordOf e)]) (.list [.str (wordOf e)]) = true := eqv_self (n := 1) (sh_lst fun d hd => by
  simp only [List.mem_cons, List.not_mem_nil, or_false] at hd
  subst hd
  exact ⟨by cases e <;> decide +kernel, by simp only [PyData.depth]; exact Nat.zero_le _⟩)
theorem wordSh (e : Err) : SeqAt.shaped (.list [.str (wordOf e)]) = true := by cases e <;> decide +kernel
/-! ### a for over a tuple, a list, as data -/
section
variable {K : PySem.W.Frag} {te ta : TE} {σ : L2.St} {H : Hp} {ds : List PyData} {u tw : TS} {D : Ends} {j : Nat} {n : Int}
theorem forD (he : EvD K te σ H (.tuple ds)) (Pv : Nat → L2.St → Hp → Prop) (h0 : ∀ H1, Same H H1 → Pv 0 σ H1)
    (hs : ∀ i x d σ' H' H1, ds[i]? = some d → Same H H1 → Same H1 H' → Dp K H' x d → Pv i σ' H' → tw { nx := fun σ2 H2 => Same H1 H2 ∧ Pv (i + 1) σ2 H2, rt := D.rt, bk := u D, ct := fun σ2 H2 => Same H1 H2 ∧ Pv (i + 1) σ2 H2 } (σ'.set j (some x)) H')
    (hd : ∀ σ' H', Pv ds.length σ' H' → u D σ' H') : tSeq (tFor (iTup K te) (gName j) tw) u D σ H :=
  he H _ (Same.refl H) fun v H1 s1 dv => by
    cases dv with
    | tup hq ha =>
      refine ⟨_, rfl, ⟨_, hq⟩, for_tup (K := K) (D := { D with nx := u D }) (fun i σ' H' => Same H1 H' ∧ Pv i σ' H') ⟨Same.refl _, h0 H1 s1⟩ (fun i σ' H' _ p => same_t p.1 hq) (fun i x σ' H' e p => ?_) (fun σ' H' p => hd σ' H' (by rw [← dpa_len ha]; exact p.2))⟩
      obtain ⟨d, ed, hx⟩ := dpa_get2 ha e
      exact hs i x d σ' H' H1 ed s1 p.1 (dp_same p.1 _ _ hx) p.2
theorem forDL (he : EvD K te σ H (.list ds)) (Pv : Nat → L2.St → Hp → Prop) (h0 : ∀ H1, Same H H1 → Pv 0 σ H1)
    (hs : ∀ i x d σ' H' H1, ds[i]? = some d → Same H H1 → Same H1 H' → Dp K H' x d → Pv i σ' H' → tw { nx := fun σ2 H2 => Same H1 H2 ∧ Pv (i + 1) σ2 H2, rt := D.rt, bk := u D, ct := fun σ2 H2 => Same H1 H2 ∧ Pv (i + 1) σ2 H2 } (σ'.set j (some x)) H')
    (hd : ∀ σ' H', Pv ds.length σ' H' → u D σ' H') : tSeq (tFor (iList K te) (gName j) tw) u D σ H :=
  he H _ (Same.refl H) fun v H1 s1 dv => by
    cases dv with
    | lst hq ha =>
      refine ⟨_, rfl, ⟨_, hq⟩, for_list (K := K) (D := { D with nx := u D }) (fun i σ' H' => Same H1 H' ∧ Pv i σ' H') ⟨Same.refl _, h0 H1 s1⟩ (fun i σ' H' _ p => p.1.seq hq) (fun i x σ' H' e p => ?_) (fun σ' H' p => hd σ' H' (by rw [← dpa_len ha]; exact p.2))⟩
      obtain ⟨d, ed, hx⟩ := dpa_get2 ha e
      exact hs i x d σ' H' H1 ed s1 p.1 (dp_same p.1 _ _ hx) p.2
/-- the same, the loop the last statement -/
theorem forDL1 (he : EvD K te σ H (.list ds)) (Pv : Nat → L2.St → Hp → Prop) (h0 : ∀ H1, Same H H1 → Pv 0 σ H1)
    (hs : ∀ i x d σ' H' H1, ds[i]? = some d → Same H H1 → Same H1 H' → Dp K H' x d → Pv i σ' H' → tw { nx := fun σ2 H2 => Same H1 H2 ∧ Pv (i + 1) σ2 H2, rt := D.rt, bk := D.nx, ct := fun σ2 H2 => Same H1 H2 ∧ Pv (i + 1) σ2 H2 } (σ'.set j (some x)) H')
    (hd : ∀ σ' H', Pv ds.length σ' H' → D.nx σ' H') : tFor (iList K te) (gName j) tw D σ H :=
  he H _ (Same.refl H) fun v H1 s1 dv => by
    cases dv with
    | lst hq ha =>
      refine ⟨_, rfl, ⟨_, hq⟩, for_list (K := K) (D := D) (fun i σ' H' => Same H1 H' ∧ Pv i σ' H') ⟨Same.refl _, h0 H1 s1⟩ (fun i σ' H' _ p => p.1.seq hq) (fun i x σ' H' e p => ?_) (fun σ' H' p => hd σ' H' (by rw [← dpa_len ha]; exact p.2))⟩
      obtain ⟨d, ed, hx⟩ := dpa_get2 ha e
      exact hs i x d σ' H' H1 ed s1 p.1 (dp_same p.1 _ _ hx) p.2
theorem ifNoLast {tt : TT} {w : TS} (h : EvB tt σ H false) (k : ∀ H1, Same H H1 → D.nx σ H1) : tIfS tt w tNext D σ H := h H _ (Same.refl H) fun H1 s => iteF (k H1 s)
theorem cut_take2 {xs : List V} {s : Int} (h0 : 0 ≤ s) : cutV xs none (some s) = xs.take s.toNat := by
  by_cases h : s ≤ xs.length
  · exact cut_take h0 h
  · unfold cutV
    obtain ⟨n, rfl⟩ := Int.eq_ofNat_of_zero_le h0
    rw [HT.sIx_none, HT.sIx_nat, Int.toNat_natCast, Nat.min_eq_right (by omega), Nat.sub_zero, List.drop_zero, List.take_length, List.take_of_length_le (by omega)]
theorem evo_takeL2 (h : EvD K te σ H (.list ds)) (hn : EvV ta σ H (.int n)) (h0 : 0 ≤ n) : EvO K (tSl (rSlL K) te tNoPart (tPart ta)) σ H (ds.take n.toNat) := fun H1 Q s1 k =>
  h H1 _ s1 fun v H2 s2 d2 => hn H2 _ (s1.trans s2) fun H3 s3 => ⟨n, rfl, by
    cases d2 with
    | lst hs ha => exact ⟨_, _, rfl, s3.seq hs, fun p np => k p _ _ ((s2.trans s3).free np) ((s2.trans s3).trans (same_upd np)) upd_same (by
        rw [cut_take2 h0]
        exact dpa_take (dpa_same (s3.trans (same_upd np)) _ _ ha))⟩⟩
end
theorem Text.take {n : Nat} {ss : List Int} (h : Text n ss) (k : Nat) : Text n (ss.take k) := ⟨by rw [List.length_take]; have := h.1; omega, fun s hs => h.2 s (List.mem_of_mem_take hs)⟩
theorem Bits.take {fs : List Int} (h : Bits fs) (k : Nat) : Bits (fs.take k) := fun f hf => h f (List.mem_of_mem_take hf)
theorem signs_text {c : Int} {n : Nat} {most : Nat} (h : 0 < n) (hm : most ≤ 60) : Text n (signsOf c n most) := ⟨by have := signsOf_len (c := c) (n := n) (most := (most : Int)) (by omega); omega, fun s hs => by have := signsOf_ok (c := c) (n := n) (most := (most : Int)) h s hs; omega⟩
theorem rep_one {α : Type} (n : Nat) (x : α) : (List.replicate n [x]).flatten = List.replicate n x := by
  induction n with
  | zero => rfl
  | succ n ih => rw [List.replicate_succ, List.flatten_cons, ih, List.replicate_succ]; rfl
/-! ### side by side -/
def FEq (a b : Int × Int) : Prop := a.1 * b.2 = b.1 * a.2
theorem FEq.trans {a b c : Int × Int} (h : FEq a b) (h2 : FEq b c) (hb : 0 < b.2) : FEq a c := by
  unfold FEq at *
  refine Int.eq_of_mul_eq_mul_right (a := b.2) (by omega) ?_
  calc a.1 * c.2 * b.2 = (a.1 * b.2) * c.2 := by rw [Int.mul_right_comm]
    _ = b.1 * a.2 * c.2 := by rw [h]
    _ = (b.1 * c.2) * a.2 := by rw [Int.mul_right_comm]
    _ = c.1 * b.2 * a.2 := by rw [h2]
    _ = c.1 * a.2 * b.2 := by rw [Int.mul_right_comm]
def Chain : List S3 → Int × Int → Int × Int → Prop
  | [], a, b => FEq a b
  | s :: r, a, b => FEq a (s.l, s.t) ∧ 1 ≤ s.w ∧ 1 ≤ s.t ∧ Chain r (s.l + s.w, s.t) b
theorem chain_front : ∀ {l : List S3} {a a' b : Int × Int}, FEq a' a → 0 < a.2 → Chain l a b → Chain l a' b
  | [], _, _, _, e, h, c => e.trans c h
  | _ :: _, _, _, _, e, h, c => ⟨e.trans c.1 h, c.2⟩
theorem chain_app : ∀ {l r : List S3} {a b c : Int × Int}, Chain l a b → 0 < b.2 → Chain r b c → Chain (l ++ r) a c
  | [], _, _, _, _, h, hb, k => chain_front h hb k
  | _ :: _, _, _, _, _, h, hb, k => ⟨h.1, h.2.1, h.2.2.1, chain_app h.2.2.2 hb k⟩
theorem chain_back : ∀ {l : List S3} {a b b' : Int × Int}, Chain l a b → 0 < b.2 → FEq b b' → Chain l a b'
  | [], _, _, _, h, hb, k => h.trans k hb
  | _ :: _, _, _, _, h, hb, k => ⟨h.1, h.2.1, h.2.2.1, chain_back h.2.2.2 hb k⟩
theorem chain_refine {α : Type} {S : α → S3} {sub : α → List S3} : ∀ {l : List α} {a b : Int × Int}, Chain (l.map S) a b → (∀ t ∈ l, Chain (sub t) ((S t).l, (S t).t) ((S t).l + (S t).w, (S t).t)) → Chain (l.flatMap sub) a b
  | [], _, _, h, _ => h
  | t :: r, a, b, h, k => by
    rw [List.flatMap_cons]
    obtain ⟨h1, h2, h3, h4⟩ := h
    exact chain_app (chain_front h1 h3 (k t List.mem_cons_self)) h3 (chain_refine h4 fun u hu => k u (List.mem_cons_of_mem _ hu))
theorem take_succ_sum {cs : List Int} {k : Nat} (h : k < cs.length) : (cs.take (k + 1)).sum = (cs.take k).sum + nth cs (k : Int) := by
  unfold nth
  rw [Int.toNat_natCast, List.take_add_one, List.getElem?_eq_getElem h, List.sum_append, List.getD_eq_getElem?_getD, List.getElem?_eq_getElem h]
  simp
theorem chain_sub {cs : List Int} {g : Int} {s : S3} {n : Nat} (p : Plan cs g) (ok : s.Ok n) : ∀ k, k ≤ cs.length → Chain ((List.range k).map fun (x : Nat) => s.by (belowOf cs (x : Int)) (nth cs (x : Int)) cs.sum) (s.l, s.t) (s.l * cs.sum + s.w * (cs.take k).sum, s.t * cs.sum)
  | 0, _ => by
    show s.l * (s.t * cs.sum) = (s.l * cs.sum + s.w * 0) * s.t
    rw [Int.mul_zero, Int.add_zero, Int.mul_comm s.t, Int.mul_assoc]
  | k + 1, h => by
    have hs := plan_share p (s := (k : Int)) (by omega) (by omega)
    have q1 : 1 ≤ cs.sum := by have := hs.b0; have := hs.c1; have := hs.bc; omega
    have t1 : 1 ≤ s.t * cs.sum := by
      have := Int.mul_le_mul_of_nonneg_left q1 (show 0 ≤ s.t by have := ok.t1; omega)
      have := ok.t1
      omega
    have w1 : 1 ≤ s.w * nth cs (k : Int) := by
      have := Int.mul_le_mul_of_nonneg_left hs.c1 (show 0 ≤ s.w by have := ok.w1; omega)
      have := ok.w1
      omega
    rw [List.range_succ, List.map_append]
    refine chain_app (chain_sub p ok k (by omega)) (by show 0 < s.t * cs.sum; omega) ?_
    have eb : belowOf cs (k : Int) = (cs.take k).sum := by
      show (cs.take (k : Int).toNat).sum = _
      rw [Int.toNat_natCast]
    refine ⟨?_, w1, t1, ?_⟩
    · show _ * (s.t * cs.sum) = (s.l * cs.sum + s.w * belowOf cs (k : Int)) * (s.t * cs.sum)
      rw [eb]
    · show (s.l * cs.sum + s.w * belowOf cs (k : Int) + s.w * nth cs (k : Int)) * (s.t * cs.sum) = (s.l * cs.sum + s.w * (cs.take (k + 1)).sum) * (s.t * cs.sum)
      rw [eb, take_succ_sum (by omega), Int.mul_add, Int.add_assoc]
/-- all texts with so many signs, in order -/
def textsB (n : Nat) : Nat → List (List Int)
  | 0 => [[]]
  | m + 1 => (textsB n m).flatMap fun t => (List.range n).map fun (x : Nat) => t ++ [(x : Int)]
theorem textsB_ok {n : Nat} : ∀ {m : Nat} {t : List Int}, t ∈ textsB n m → t.length = m ∧ ∀ x ∈ t, 0 ≤ x ∧ x < n
  | 0, t, h => by
    rw [List.mem_singleton.mp h]
    exact ⟨rfl, fun x hx => nomatch hx⟩
  | m + 1, t, h => by
    obtain ⟨u, hu, h2⟩ := List.mem_flatMap.mp h
    obtain ⟨x, hx, rfl⟩ := List.mem_map.mp h2
    have k := textsB_ok hu
    have hx := List.mem_range.mp hx
    refine ⟨by rw [List.length_append, k.1]; rfl, fun y hy => ?_⟩
    rcases List.mem_append.mp hy with hy | hy
    · exact k.2 y hy
    · rw [List.mem_singleton.mp hy]
      omega
theorem textsB_len {n : Nat} (h : n ≤ 8) : ∀ m, (textsB n m).length ≤ 8 ^ m
  | 0 => Nat.le_refl 1
  | m + 1 => by
    have := textsB_len h m
    show ((textsB n m).flatMap _).length ≤ _
    rw [List.length_flatMap]
    have e : (textsB n m).map (fun t => ((List.range n).map fun (x : Nat) => t ++ [(x : Int)]).length) = (textsB n m).map fun _ => n := by
      refine List.map_congr_left fun t _ => ?_
      rw [List.length_map, List.length_range]
    rw [e, List.map_const', List.sum_replicate_nat, Nat.pow_succ]
    exact Nat.mul_le_mul this h
theorem chain_texts {cs : List Int} {g : Int} (p : Plan cs g) : ∀ m, m ≤ 60 → Chain ((textsB cs.length m).map (textS cs g)) (0, 1) (1, 1)
  | 0, _ => ⟨rfl, Int.le_refl 1, Int.le_refl 1, rfl⟩
  | m + 1, h => by
    show Chain (((textsB cs.length m).flatMap _).map _) _ _
    rw [List.map_flatMap]
    refine chain_refine (chain_texts p m (by omega)) fun t ht => ?_
    obtain ⟨hl, hx⟩ := textsB_ok ht
    obtain ⟨pa, la⟩ := after_ok p hx
    have ok := textS_ok p (ss := t) ⟨by omega, fun x hh => by have := hx x hh; omega⟩
    have c := chain_sub pa ok cs.length (by omega)
    have hs := plan_share pa (s := 0) (by omega) (by have := p.two; omega)
    have q1 : 1 ≤ (after cs g t).sum := by have := hs.b0; have := hs.c1; have := hs.bc; omega
    have t1 : 0 < (textS cs g t).t * (after cs g t).sum := Int.mul_pos (by have := ok.t1; omega) (by omega)
    rw [List.map_map]
    have e : (textS cs g ∘ fun (x : Nat) => t ++ [(x : Int)]) = fun (x : Nat) => (textS cs g t).by (belowOf (after cs g t) (x : Int)) (nth (after cs g t) (x : Int)) (after cs g t).sum := funext fun x => strOf_snoc g x t whole3 cs
    rw [e]
    refine chain_back c t1 ?_
    rw [← la, List.take_length]
    show ((textS cs g t).l * _ + (textS cs g t).w * _) * (textS cs g t).t = ((textS cs g t).l + (textS cs g t).w) * ((textS cs g t).t * _)
    rw [← Int.add_mul, Int.mul_comm (textS cs g t).t, Int.mul_assoc]
theorem by_within {s : S3} {n : Nat} {b c q : Int} (ok : s.Ok n) (hs : Share b c q) : withinB (s.by b c q) s = true := by
  have t1 := ok.t1; have w1 := ok.w1
  have b0 := hs.b0; have c1 := hs.c1; have bc := hs.bc
  have e1 : (s.by b c q).l * s.t = s.l * (s.by b c q).t + s.w * b * s.t := by
    show (s.l * q + s.w * b) * s.t = s.l * (s.t * q) + s.w * b * s.t
    rw [Int.add_mul, Int.mul_comm s.t q, Int.mul_assoc s.l]
  have h1 : 0 ≤ s.w * b * s.t := Int.mul_nonneg (Int.mul_nonneg (by omega) b0) (by omega)
  have m4 : s.w * (b + c) * s.t ≤ s.w * q * s.t := Int.mul_le_mul_of_nonneg_right (Int.mul_le_mul_of_nonneg_left bc (by omega)) (by omega)
  have e2 : ((s.by b c q).l + (s.by b c q).w) * s.t = s.l * (s.by b c q).t + s.w * (b + c) * s.t := by
    show (s.l * q + s.w * b + s.w * c) * s.t = s.l * (s.t * q) + s.w * (b + c) * s.t
    rw [Int.add_assoc, ← Int.mul_add, Int.add_mul, Int.mul_comm s.t q, Int.mul_assoc s.l]
  have e3 : (s.l + s.w) * (s.by b c q).t = s.l * (s.by b c q).t + s.w * q * s.t := by
    show (s.l + s.w) * (s.t * q) = s.l * (s.t * q) + s.w * q * s.t
    rw [Int.add_mul, Int.mul_comm s.t q, Int.mul_assoc s.w]
  unfold withinB
  rw [decide_eq_false (by omega), decide_eq_true (by omega)]
  rfl
/-- list + list, also what no one tracks -/
def rCatL (K : PySem.W.Frag) : R2 := fun x y H Q => ∃ l b xs zs, x = .ref l ∧ y = .ref b ∧ SqL K H l xs ∧ SqL K H b zs ∧ xs.length + zs.length ≤ sizeLine ∧ ∀ p, H p = none → Q (.ref p) (upd H p (.lst (xs ++ zs)))
theorem op_catL {X : Cx} : OpR X (binaryOp .Add) (rCatL X.K) := by
  intro pins s σ H x y v u Q I rx ry h
  obtain ⟨l, b, xs, zs, rfl, rfl, hH, hB, hz, q⟩ := h
  cases rx
  cases ry
  obtain ⟨its, r, ⟨⟨cls, dd, data, sl⟩, n, ho, hc, hdd, hd⟩, hl⟩ := I.list hH
  obtain ⟨its2, r2, ⟨⟨cls2, dd2, data2, sl2⟩, n2, ho2, hc2, hdd2, hd2⟩, hl2⟩ := I.list hB
  simp only at hc hd hc2 hd2
  subst hc hd hc2 hd2
  have e1 := r.length
  have e2 := r2.length
  have ea : its.toArray ++ its2.toArray = (its ++ its2).toArray := by simp
  refine concat_meets ⟨_, ho, rfl⟩ ⟨_, ho2, rfl⟩ noFill_list_add seq_list_add PySem.F.slot_list_add PySem.F.entry_list_add (PySem.F.args_list_add_2 _ _) (list_addW l b its.toArray its2.toArray n n2 dd dd2 sl sl2 (by rw [List.size_toArray, List.size_toArray]; omega)) ⟨ho, ho2, ?_⟩
  rw [ea]
  exact ⟨.ref _, _, I.lnew (t' := s.toks) (r.append r2) (by rw [List.length_append]; omega), rfl, q _ I.fresh⟩
theorem op_catLK {X : Cx} {K : PySem.W.Frag} (h : X.K = K) : OpR X (binaryOp .Add) (rCatL K) := by subst h; exact op_catL
theorem cut_last {xs : List V} : cutV xs none (some (-1)) = xs.dropLast := by
  unfold cutV
  rw [HT.sIx_none, List.drop_zero, List.dropLast_eq_take]
  refine congrArg (fun n => xs.take n) ?_
  show ((-1 : Int) + xs.length).toNat - 0 = _
  omega
theorem dpa_last {K : PySem.W.Frag} {H : Hp} {vs : List V} {ds : List PyData} (h : DpAll K H vs ds) : DpAll K H vs.dropLast ds.dropLast := by
  rw [List.dropLast_eq_take, List.dropLast_eq_take, dpa_len h]
  exact dpa_take h
section
variable {K : PySem.W.Frag} {te ta tb : TE} {σ : L2.St} {H : Hp} {ds es : List PyData} {u tw : TS} {D : Ends} {i j : Nat} {n : Int}
theorem evo_catL (ha : EvD K ta σ H (.list ds)) (hb : EvD K tb σ H (.list es)) (hl : ds.length + es.length ≤ 100000) : EvO K (tOp (rCatL K) ta tb) σ H (ds ++ es) := fun H1 Q s1 k =>
  ha H1 _ s1 fun v H2 s2 d2 => hb H2 _ (s1.trans s2) fun y H3 s3 d3 => by
    cases d2 with
    | lst h2 a2 =>
      cases d3 with
      | lst h3 a3 => exact ⟨_, _, _, _, rfl, rfl, s3.seq h2, h3, by rw [dpa_len a2, dpa_len a3]; exact Nat.le_trans hl (by decide), fun l nl =>
          k l _ _ ((s2.trans s3).free nl) ((s2.trans s3).trans (same_upd nl)) upd_same (dpa_app (dpa_same (s3.trans (same_upd nl)) _ _ a2) (dpa_same (same_upd nl) _ _ a3))⟩
theorem asgLastO (h : EvO K te σ H ds) (k : ∀ p vs H1, H p = none → Same H H1 → H1 p = some (.lst vs) → DpAll K H1 vs ds → D.nx (σ.set i (some (.ref p))) H1) : tAsg te (gName i) D σ H := h H _ (Same.refl H) fun p vs H1 np s e d => k p vs H1 np s e d
theorem forR {m : Nat} (he : EvV te σ H (.int (m : Int))) (hz : m ≤ 100000) (Pv : Nat → L2.St → Hp → Prop) (h0 : ∀ H1, Same H H1 → Pv 0 σ H1)
    (hs : ∀ i σ' H', i < m → Pv i σ' H' → tw { nx := Pv (i + 1), rt := D.rt, bk := u D, ct := Pv (i + 1) } (σ'.set j (some (.int (i : Int)))) H') (hd : ∀ σ' H', Pv m σ' H' → u D σ' H') : tSeq (tFor (iRng1 (tCons te tNil)) (gName j) tw) u D σ H :=
  he H _ (Same.refl H) fun H1 s1 => ⟨(m : Int), rfl, by omega, by omega, by
    rw [Int.toNat_natCast]
    exact for_range (lo := 0) (n := m) (D := { D with nx := u D }) Pv (h0 H1 s1) (fun i σ' H' hi p => by
      have := hs i σ' H' hi p
      rw [← Int.zero_add (i : Int)] at this
      exact this) hd⟩
theorem evo_lastG (h : EvD K te σ H (.list ds)) (hn : EvV ta σ H (.int (-1))) : EvO K (tSl (rSlL K) te tNoPart (tPart ta)) σ H ds.dropLast := fun H1 Q s1 k =>
  h H1 _ s1 fun v H2 s2 d2 => hn H2 _ (s1.trans s2) fun H3 s3 => ⟨-1, rfl, by
    cases d2 with
    | lst hs ha => exact ⟨_, _, rfl, s3.seq hs, fun p np => k p _ _ ((s2.trans s3).free np) ((s2.trans s3).trans (same_upd np)) upd_same (by
        rw [cut_last]
        exact dpa_last (dpa_same (s3.trans (same_upd np)) _ _ ha))⟩⟩
theorem evo_last (h : EvD K te σ H (.list ds)) : EvO K (tSl (rSlL K) te tNoPart (tPart (tUn (rU fun i => V.int (-i)) (tC (.int 1))))) σ H ds.dropLast := evo_lastG h (ev_neg ev_c)
end
/-! ### some of the errors' classes only -/
def errR1 (K : PySem.W.Frag) (e : Err) : Bool := PySem.W.excIn K (errC K e) He.veBase "ValueError.__new__" && (PySem.W.keepIn K (.ref (errC K e)) && (decide (PySem.W.subIn K (.ref (errC K e)) (.type "BaseException") = some true) && decide (PySem.W.typeIn K (.ref (errC K e)) = some (.type "type"))))
def errsR (es : List Err) (K : PySem.W.Frag) : Bool := es.all fun e => errR1 K e
theorem errsR_ok {es : List Err} {K : PySem.W.Frag} (h : errsR es K = true) (e : Err) (hm : e ∈ es) : PySem.W.excIn K (errC K e) He.veBase "ValueError.__new__" = true ∧ PySem.W.keepIn K (.ref (errC K e)) = true ∧ PySem.W.subIn K (.ref (errC K e)) (.type "BaseException") = some true ∧ PySem.W.typeIn K (.ref (errC K e)) = some (.type "type") := by
  obtain ⟨h1, h⟩ := He.ba (List.all_eq_true.mp h e hm)
  obtain ⟨h2, h⟩ := He.ba h
  obtain ⟨h3, h4⟩ := He.ba h
  exact ⟨h1, h2, of_decide_eq_true h3, of_decide_eq_true h4⟩
end Pl

namespace Pl
open PySem PySem.Spec PyProof.Rows L2
theorem wmul {i j : Int} {n m : Nat} (hi : i.natAbs < 2 ^ n) (hj : j.natAbs < 2 ^ m) (h : n + m ≤ 900000) : CMulW i j :=
  wide_mul (a := n + 1) (b := m + 1) (Nat.lt_of_lt_of_le hi (Nat.pow_le_pow_right (by decide) (by omega))) (Nat.lt_of_lt_of_le hj (Nat.pow_le_pow_right (by decide) (by omega))) (by omega) (by omega) (by omega)
theorem Share.abs {b c q : Int} (h : Share b c q) : b.natAbs < 2 ^ 23 ∧ c.natAbs < 2 ^ 23 ∧ q.natAbs < 2 ^ 23 := by
  have := h.b0; have := h.c1; have := h.bc; have := h.q8
  refine ⟨?_, ?_, ?_⟩ <;> (show _ < 8388608; omega)
theorem unp2Lx {K : PySem.W.Frag} {te : TE} {σ : L2.St} {H : Hp} {D : Ends} {i j : Nat} {d1 d2 : PyData} (h : EvD K te σ H (.tuple [d1, d2])) (q : ∀ v1 v2 H1, Same H H1 → Dp K H1 v1 d1 → Dp K H1 v2 d2 → D.nx ((σ.set i (some v1)).set j (some v2)) H1) : tAsg te (gTup K 2 (gCons (gName i) (gCons (gName j) gNil))) D σ H :=
  h H _ (Same.refl H) fun v H1 s1 dv => by
    cases dv with
    | tup hs ha =>
      obtain ⟨v1, v2, rfl, a1, a2⟩ := dpaN2 ha
      exact ⟨_, _, rfl, hs, rfl, _, _, rfl, _, _, rfl, rfl, q _ _ H1 s1 a1 a2⟩
theorem isBits_ok {d : PyData} {n : Nat} (h : isWholeList d n 0 1 = true) : ∃ fs : List Int, d = .list (fs.map PyData.int) ∧ fs.length ≤ n ∧ Bits fs := by
  cases d with
  | list ds =>
    have h2 : (decide (ds.length ≤ n) && areWhole ds 0 1) = true := h
    rw [Bool.and_eq_true, decide_eq_true_eq] at h2
    obtain ⟨ns, rfl, q⟩ := areWhole_ok h2.2
    refine ⟨ns, rfl, ?_, q⟩
    simpa using h2.1
  | _ => cases h
theorem isBits_of {fs : List Int} {n : Nat} (h : Bits fs) (hl : fs.length ≤ n) : isWholeList (.list (fs.map PyData.int)) n 0 1 = true := by
  show (decide ((fs.map PyData.int).length ≤ n) && areWhole (fs.map PyData.int) 0 1) = true
  rw [areWhole_ints h, List.length_map, decide_eq_true hl]
  rfl
theorem get_int {ss : List Int} {i : Nat} {x : V} (hi : (ss.map V.int)[i]? = some x) : ∃ s, ss[i]? = some s ∧ x = V.int s := by
  rw [List.getElem?_map] at hi
  cases e : ss[i]? with
  | none => rw [e] at hi; cases hi
  | some s => rw [e] at hi; exact ⟨s, rfl, (Option.some.inj hi).symm⟩
theorem numOf_moreX (as fs : List Int) (i : Nat) {b : Int} (e : fs[i]? = some b) : numOf (as ++ fs.take (i + 1)) = 2 * numOf (as ++ fs.take i) + b := by
  rw [take_snoc e, ← List.append_assoc, numOf_snoc]
end Pl

namespace Pl
open PySem PySem.Spec PyProof.Rows L2
/-! ### fractions in order -/
def LeF (a b : Int × Int) : Prop := a.1 * b.2 ≤ b.1 * a.2
def LtF (a b : Int × Int) : Prop := a.1 * b.2 < b.1 * a.2
theorem LeF.trans {a b c : Int × Int} (h : LeF a b) (h2 : LeF b c) (ha : 0 < a.2) (hb : 0 < b.2) (hc : 0 < c.2) : LeF a c := by
  unfold LeF at *
  refine Int.le_of_mul_le_mul_right (a := b.2) ?_ hb
  have m1 := Int.mul_le_mul_of_nonneg_right h (show 0 ≤ c.2 by omega)
  have m2 := Int.mul_le_mul_of_nonneg_right h2 (show 0 ≤ a.2 by omega)
  have e1 : a.1 * c.2 * b.2 = a.1 * b.2 * c.2 := Int.mul_right_comm _ _ _
  have e2 : b.1 * a.2 * c.2 = b.1 * c.2 * a.2 := Int.mul_right_comm _ _ _
  have e3 : c.1 * a.2 * b.2 = c.1 * b.2 * a.2 := Int.mul_right_comm _ _ _
  omega
theorem LtF.trans_le {a b c : Int × Int} (h : LtF a b) (h2 : LeF b c) (ha : 0 < a.2) (hb : 0 < b.2) (hc : 0 < c.2) : LtF a c := by
  unfold LeF LtF at *
  refine Int.lt_of_mul_lt_mul_right (a := b.2) ?_ (show 0 ≤ b.2 by omega)
  have m1 := Int.mul_lt_mul_of_pos_right h hc
  have m2 := Int.mul_le_mul_of_nonneg_right h2 (show 0 ≤ a.2 by omega)
  have e1 : a.1 * c.2 * b.2 = a.1 * b.2 * c.2 := Int.mul_right_comm _ _ _
  have e2 : b.1 * a.2 * c.2 = b.1 * c.2 * a.2 := Int.mul_right_comm _ _ _
  have e3 : c.1 * a.2 * b.2 = c.1 * b.2 * a.2 := Int.mul_right_comm _ _ _
  omega
theorem LeF.refl (a : Int × Int) : LeF a a := Int.le_refl _
theorem LtF.le {a b : Int × Int} (h : LtF a b) : LeF a b := Int.le_of_lt h
theorem LtF.not_le {a b : Int × Int} (h : LtF a b) : ¬ LeF b a := Int.not_le.mpr h
def S3.lo (s : S3) : Int × Int := (s.l, s.t)
def S3.hi (s : S3) : Int × Int := (s.l + s.w, s.t)
/-- what a stretch is -/
structure S3.Good (s : S3) : Prop where
  l0 : 0 ≤ s.l
  w1 : 1 ≤ s.w
  lw : s.l + s.w ≤ s.t
theorem S3.Ok.good {s : S3} {n : Nat} (h : s.Ok n) : s.Good := ⟨h.l0, h.w1, h.lw⟩
theorem S3.Good.t0 {s : S3} (h : s.Good) : 0 < s.t := by have := h.l0; have := h.w1; have := h.lw; omega
theorem S3.Good.lohi {s : S3} (h : s.Good) : LtF s.lo s.hi := by
  show s.l * s.t < (s.l + s.w) * s.t
  exact Int.mul_lt_mul_of_pos_right (by have := h.w1; omega) h.t0
theorem within_iff {a b : S3} : withinB a b = true ↔ LeF b.lo a.lo ∧ LeF a.hi b.hi := by
  show (!decide (a.l * b.t < b.l * a.t) && decide ((a.l + a.w) * b.t ≤ (b.l + b.w) * a.t)) = true ↔ b.l * a.t ≤ a.l * b.t ∧ (a.l + a.w) * b.t ≤ (b.l + b.w) * a.t
  rw [Bool.and_eq_true, Bool.not_eq_true', decide_eq_false_iff_not, decide_eq_true_eq, Int.not_lt]
theorem within_trans {a b c : S3} (ga : a.Good) (gb : b.Good) (gc : c.Good) (h : withinB a b = true) (h2 : withinB b c = true) : withinB a c = true := by
  obtain ⟨h1, h3⟩ := within_iff.mp h
  obtain ⟨h4, h5⟩ := within_iff.mp h2
  exact within_iff.mpr ⟨h4.trans h1 gc.t0 gb.t0 ga.t0, h3.trans h5 ga.t0 gb.t0 gc.t0⟩
theorem within_self (a : S3) : withinB a a = true := within_iff.mpr ⟨LeF.refl _, LeF.refl _⟩
theorem figS_good {fs : List Int} (h : Bits fs) : (figS fs).Good := (figS_ok h).good
/-- a stretch that lies within two lies not in two of which one ends where, or ahead of where, the other begins -/
theorem apart {a b c : S3} (ga : a.Good) (gb : b.Good) (gc : c.Good) (h : withinB c a = true) (h2 : withinB c b = true) : ¬ LeF a.hi b.lo := fun z => by
  obtain ⟨_, h3⟩ := within_iff.mp h
  obtain ⟨h4, _⟩ := within_iff.mp h2
  have q := (h3.trans z gc.t0 ga.t0 gb.t0).trans h4 gc.t0 gb.t0 gc.t0
  exact gc.lohi.not_le q
/-! ### figures by a number -/
def bitsOf : Nat → Int → List Int
  | 0, _ => []
  | n + 1, k => bitsOf n (k / 2) ++ [k % 2]
theorem bitsOf_len : ∀ (n : Nat) (k : Int), (bitsOf n k).length = n
  | 0, _ => rfl
  | n + 1, k => by
    show (bitsOf n (k / 2) ++ [k % 2]).length = n + 1
    rw [List.length_append, bitsOf_len n]
    rfl
theorem bitsOf_bits : ∀ (n : Nat) (k : Int), Bits (bitsOf n k)
  | 0, _ => fun _ h => nomatch h
  | n + 1, k => fun f hf => by
    rcases List.mem_append.mp hf with h | h
    · exact bitsOf_bits n _ f h
    · rw [List.mem_singleton.mp h]
      omega
theorem bitsOf_num : ∀ (n : Nat) (k : Int), 0 ≤ k → k < 2 ^ n → numOf (bitsOf n k) = k
  | 0, k, h0, h1 => by
    have : k < 1 := h1
    show (0 : Int) = k
    omega
  | n + 1, k, h0, h1 => by
    rw [Int.pow_succ] at h1
    show numOf (bitsOf n (k / 2) ++ [k % 2]) = k
    rw [numOf_snoc, bitsOf_num n (k / 2) (by omega) (by omega)]
    omega
theorem num_inj : ∀ {fs gs : List Int}, Bits fs → Bits gs → fs.length = gs.length → numOf fs = numOf gs → fs = gs := fun {fs} => by
  refine foldl_snoc_ind (P := fun fs => ∀ {gs : List Int}, Bits fs → Bits gs → fs.length = gs.length → numOf fs = numOf gs → fs = gs) ?_ ?_ fs
  · intro gs _ _ hl _
    exact (List.eq_nil_of_length_eq_zero hl.symm).symm
  · intro l x ih gs hf hg hl hn
    have hne : gs ≠ [] := fun z => by rw [z, List.length_append] at hl; simp at hl
    have eg := List.dropLast_concat_getLast hne
    have hg2 : Bits gs.dropLast := fun f h => hg f (List.dropLast_subset _ h)
    have hx := hf x (by simp)
    have hy := hg (gs.getLast hne) (List.getLast_mem hne)
    rw [← eg, numOf_snoc, numOf_snoc] at hn
    have l1 : l.length = gs.dropLast.length := by
      rw [← eg, List.length_append, List.length_append, List.length_singleton, List.length_singleton] at hl
      omega
    have e1 := ih (fun f h => hf f (List.mem_append_left _ h)) hg2 l1 (by omega)
    have e2 : x = gs.getLast hne := by rw [e1] at hn; omega
    rw [e1, e2, eg]
/-! ### the figures in a stretch -/
/-- the first number, of so many figures, whose stretch begins in s -/
def firstK (s : S3) (n : Nat) : Int := (s.l * 2 ^ n + s.t - 1) / s.t
def fitsK (s : S3) (n : Nat) : Bool := decide ((firstK s n + 1) * s.t ≤ (s.l + s.w) * 2 ^ n)
theorem pow2_pos (n : Nat) : (0 : Int) < 2 ^ n := Int.pow_pos (by decide)
theorem firstK_ge {s : S3} (h : s.Good) (n : Nat) : s.l * 2 ^ n ≤ firstK s n * s.t := by
  have t0 := h.t0
  have := Int.lt_ediv_add_one_mul_self (s.l * 2 ^ n + s.t - 1) t0
  unfold firstK
  rw [Int.add_mul] at this
  omega
theorem firstK_le {s : S3} (h : s.Good) {n : Nat} {k : Int} (hk : s.l * 2 ^ n ≤ k * s.t) : firstK s n ≤ k := by
  have t0 := h.t0
  refine Int.lt_add_one_iff.mp (Int.ediv_lt_of_lt_mul t0 ?_)
  rw [Int.add_mul]
  omega
theorem firstK_pos {s : S3} (h : s.Good) (n : Nat) : 0 ≤ firstK s n := by
  refine Int.ediv_nonneg ?_ (by have := h.t0; omega)
  have := Int.mul_nonneg h.l0 (show (0 : Int) ≤ 2 ^ n by have := pow2_pos n; omega)
  have := h.t0
  omega
theorem fits_lt {s : S3} (h : s.Good) {n : Nat} (hf : fitsK s n = true) : firstK s n < 2 ^ n := by
  have f := of_decide_eq_true hf
  have p := pow2_pos n
  have m := Int.mul_le_mul_of_nonneg_right h.lw (show (0 : Int) ≤ 2 ^ n by omega)
  rw [Int.mul_comm s.t] at m
  have q := Int.le_of_mul_le_mul_right (Int.le_trans f m) h.t0
  omega
theorem fits_within {s : S3} (h : s.Good) {n : Nat} (hf : fitsK s n = true) : withinB (figS (bitsOf n (firstK s n))) s = true := by
  have f := of_decide_eq_true hf
  refine within_iff.mpr ⟨?_, ?_⟩
  · show s.l * 2 ^ (bitsOf n (firstK s n)).length ≤ numOf (bitsOf n (firstK s n)) * s.t
    rw [bitsOf_len, bitsOf_num n _ (firstK_pos h n) (fits_lt h hf)]
    exact firstK_ge h n
  · show (numOf (bitsOf n (firstK s n)) + 1) * s.t ≤ (s.l + s.w) * 2 ^ (bitsOf n (firstK s n)).length
    rw [bitsOf_len, bitsOf_num n _ (firstK_pos h n) (fits_lt h hf)]
    exact f
theorem within_fits {s : S3} (h : s.Good) {fs : List Int} (hw : withinB (figS fs) s = true) : fitsK s fs.length = true ∧ firstK s fs.length ≤ numOf fs := by
  obtain ⟨h1, h2⟩ := within_iff.mp hw
  have k := firstK_le h (n := fs.length) (k := numOf fs) h1
  refine ⟨decide_eq_true ?_, k⟩
  have m := Int.mul_le_mul_of_nonneg_right (show firstK s fs.length + 1 ≤ numOf fs + 1 by omega) (show 0 ≤ s.t by have := h.t0; omega)
  exact Int.le_trans m h2
theorem fits_wide {s : S3} (h : s.Good) {n : Nat} (hw : 2 * s.t ≤ s.w * 2 ^ n) : fitsK s n = true := by
  refine decide_eq_true ?_
  have t0 := h.t0
  have q := Int.ediv_mul_le (s.l * 2 ^ n + s.t - 1) (show s.t ≠ 0 by omega)
  unfold firstK
  rw [Int.add_mul, Int.add_mul]
  omega
theorem wide_fits {s : S3} (h : s.Good) {n : Nat} (hf : fitsK s n = true) : s.t ≤ s.w * 2 ^ n := by
  have f := of_decide_eq_true hf
  have g := firstK_ge h n
  rw [Int.add_mul, Int.add_mul] at f
  omega
def leastFrom (p : Nat → Bool) : Nat → Nat → Nat
  | 0, n => n
  | f + 1, n => if p n then n else leastFrom p f (n + 1)
theorem leastFrom_ok {p : Nat → Bool} {m : Nat} (hm : p m = true) : ∀ f n, n ≤ m → m ≤ n + f → p (leastFrom p f n) = true ∧ leastFrom p f n ≤ m ∧ ∀ j, n ≤ j → j < leastFrom p f n → p j = false
  | 0, n, h1, h2 => by
    have e : n = m := by omega
    subst e
    exact ⟨hm, Nat.le_refl _, fun j a b => absurd b (Nat.not_lt.mpr a)⟩
  | f + 1, n, h1, h2 => by
    unfold leastFrom
    cases e : p n with
    | true =>
      rw [if_pos rfl]
      exact ⟨e, h1, fun j a b => absurd b (Nat.not_lt.mpr a)⟩
    | false =>
      rw [if_neg Bool.false_ne_true]
      have h3 : n + 1 ≤ m := by
        rcases Nat.lt_or_ge n m with z | z
        · exact z
        · have : n = m := by omega
          subst this
          rw [hm] at e
          cases e
      obtain ⟨a, b, c⟩ := leastFrom_ok hm f (n + 1) h3 (by omega)
      refine ⟨a, b, fun j h4 h5 => ?_⟩
      rcases Nat.lt_or_ge n j with z | z
      · exact c j z h5
      · have : j = n := by omega
        subst this
        exact e
def fewK (s : S3) : Nat := leastFrom (fitsK s) (2 * s.t).toNat 0
def figsIn (s : S3) : List Int := bitsOf (fewK s) (firstK s (fewK s))
theorem lt_pow2 (n : Nat) : (n : Int) < 2 ^ n := by
  rw [← pow_nat]
  exact Int.ofNat_lt.mpr Nat.lt_two_pow_self
theorem fewK_ok {s : S3} (h : s.Good) : fitsK s (fewK s) = true ∧ ∀ j, fitsK s j = true → fewK s ≤ j := by
  have t0 := h.t0
  have hm : fitsK s (2 * s.t).toNat = true := fits_wide h (by
    have p := lt_pow2 (2 * s.t).toNat
    have m := Int.mul_le_mul_of_nonneg_right h.w1 (show (0 : Int) ≤ 2 ^ (2 * s.t).toNat by have := pow2_pos (2 * s.t).toNat; omega)
    omega)
  obtain ⟨a, b, c⟩ := leastFrom_ok hm (2 * s.t).toNat 0 (Nat.zero_le _) (by omega)
  refine ⟨a, fun j hj => ?_⟩
  rcases Nat.lt_or_ge j (fewK s) with z | z
  · have := c j (Nat.zero_le _) z
    rw [hj] at this
    cases this
  · exact z
theorem figsIn_len (s : S3) : (figsIn s).length = fewK s := bitsOf_len _ _
theorem figsIn_bits (s : S3) : Bits (figsIn s) := bitsOf_bits _ _
theorem figsIn_num {s : S3} (h : s.Good) : numOf (figsIn s) = firstK s (fewK s) := bitsOf_num _ _ (firstK_pos h _) (fits_lt h (fewK_ok h).1)
theorem figsIn_within {s : S3} (h : s.Good) : withinB (figS (figsIn s)) s = true := fits_within h (fewK_ok h).1
/-- no list of figures within it is shorter; of as many, none has a lesser number -/
theorem figsIn_least {s : S3} (h : s.Good) {fs : List Int} (hw : withinB (figS fs) s = true) : (figsIn s).length ≤ fs.length ∧ ((figsIn s).length = fs.length → numOf (figsIn s) ≤ numOf fs) := by
  obtain ⟨a, b⟩ := within_fits h hw
  have l := (fewK_ok h).2 _ a
  rw [figsIn_len, figsIn_num h]
  exact ⟨l, fun e => by rw [e]; exact b⟩
/-- just these, where a list lies within it, none shorter, none of as many ahead of it -/
theorem figsIn_is {s : S3} (h : s.Good) {fs : List Int} (hb : Bits fs) (hw : withinB (figS fs) s = true) (hl : fs.length = fewK s) (hn : numOf fs = firstK s (fewK s)) : fs = figsIn s :=
  num_inj hb (figsIn_bits s) (by rw [figsIn_len, hl]) (by rw [figsIn_num h, hn])
/-- how many there are -/
theorem fewK_bounds {s : S3} (h : s.Good) : s.t ≤ s.w * 2 ^ fewK s ∧ s.w * 2 ^ fewK s < 4 * s.t := by
  obtain ⟨a, b⟩ := fewK_ok h
  refine ⟨wide_fits h a, ?_⟩
  have t0 := h.t0
  cases e : fewK s with
  | zero =>
    have := h.l0; have := h.lw
    show s.w * 1 < 4 * s.t
    omega
  | succ n =>
    have nf : ¬ 2 * s.t ≤ s.w * 2 ^ n := fun z => by
      have := b n (fits_wide h z)
      omega
    rw [Int.pow_succ, ← Int.mul_assoc]
    omega
theorem fewK_le {s : S3} {n : Nat} (h : s.Ok n) : fewK s ≤ n + 1 := by
  have b := (fewK_bounds h.good).2
  rcases Nat.lt_or_ge (n + 1) (fewK s) with z | z
  · have p : (2 : Int) ^ (n + 2) ≤ 2 ^ fewK s := pow_mono z
    have m := Int.mul_le_mul_of_nonneg_right h.w1 (show (0 : Int) ≤ 2 ^ fewK s by have := pow2_pos (fewK s); omega)
    have e : (2 : Int) ^ (n + 2) = 2 ^ n * 4 := by rw [Int.pow_add]; rfl
    have := h.tn
    omega
  · exact z
/-! ### figures that go on -/
theorem numOf_app (fs : List Int) : ∀ gs : List Int, numOf (fs ++ gs) = numOf fs * 2 ^ gs.length + numOf gs := by
  refine foldl_snoc_ind (P := fun gs => numOf (fs ++ gs) = numOf fs * 2 ^ gs.length + numOf gs) ?_ ?_
  · rw [List.append_nil]
    show numOf fs = numOf fs * 1 + 0
    omega
  · intro l x ih
    rw [← List.append_assoc, numOf_snoc, ih, numOf_snoc, List.length_append, List.length_singleton, Int.pow_succ, ← Int.mul_assoc]
    omega
theorem figs_prefix {fs gs : List Int} (hg : Bits gs) : withinB (figS (fs ++ gs)) (figS fs) = true := by
  obtain ⟨g0, g1⟩ := numOf_ok gs hg
  have p := pow2_pos fs.length
  refine within_iff.mpr ⟨?_, ?_⟩
  · show numOf fs * 2 ^ (fs ++ gs).length ≤ numOf (fs ++ gs) * 2 ^ fs.length
    rw [numOf_app, List.length_append, Int.pow_add, Int.mul_comm (2 ^ fs.length), ← Int.mul_assoc]
    exact Int.mul_le_mul_of_nonneg_right (by omega) (by omega)
  · show (numOf (fs ++ gs) + 1) * 2 ^ fs.length ≤ (numOf fs + 1) * 2 ^ (fs ++ gs).length
    rw [numOf_app, List.length_append, Int.pow_add, Int.mul_comm (2 ^ fs.length), ← Int.mul_assoc, Int.add_mul (numOf fs)]
    exact Int.mul_le_mul_of_nonneg_right (by omega) (by omega)
/-- of figures that part: those with 0 end where, or ahead of where, those with 1 begin -/
theorem figs_part {p a b : List Int} (ha : Bits a) (hb : Bits b) : LeF (figS (p ++ 0 :: a)).hi (figS (p ++ 1 :: b)).lo := by
  obtain ⟨a0, a1⟩ := numOf_ok a ha
  obtain ⟨b0, b1⟩ := numOf_ok b hb
  show (numOf (p ++ 0 :: a) + 1) * 2 ^ (p ++ 1 :: b).length ≤ numOf (p ++ 1 :: b) * 2 ^ (p ++ 0 :: a).length
  have e0 : numOf (p ++ 0 :: a) = 2 * numOf p * 2 ^ a.length + numOf a := by
    rw [show p ++ 0 :: a = (p ++ [0]) ++ a by simp, numOf_app, numOf_snoc, Int.add_zero]
  have e1 : numOf (p ++ 1 :: b) = (2 * numOf p + 1) * 2 ^ b.length + numOf b := by
    rw [show p ++ 1 :: b = (p ++ [1]) ++ b by simp, numOf_app, numOf_snoc]
  have l0 : (2 : Int) ^ (p ++ 0 :: a).length = 2 ^ (p.length + 1) * 2 ^ a.length := by
    rw [show p ++ 0 :: a = (p ++ [0]) ++ a by simp, List.length_append, List.length_append, List.length_singleton, Int.pow_add]
  have l1 : (2 : Int) ^ (p ++ 1 :: b).length = 2 ^ (p.length + 1) * 2 ^ b.length := by
    rw [show p ++ 1 :: b = (p ++ [1]) ++ b by simp, List.length_append, List.length_append, List.length_singleton, Int.pow_add]
  rw [e0, e1, l0, l1]
  have hA := pow2_pos a.length
  have hB := pow2_pos b.length
  have hP := pow2_pos (p.length + 1)
  generalize (2 : Int) ^ a.length = A at *
  generalize (2 : Int) ^ b.length = B at *
  generalize (2 : Int) ^ (p.length + 1) = C at *
  generalize numOf p = N at *
  have m1 : 2 * N * A + numOf a + 1 ≤ (2 * N + 1) * A := by rw [Int.add_mul]; omega
  have m2 := Int.mul_le_mul_of_nonneg_right m1 (Int.mul_nonneg (show 0 ≤ C by omega) (show 0 ≤ B by omega))
  have m3 : (2 * N + 1) * B ≤ (2 * N + 1) * B + numOf b := by omega
  have m4 := Int.mul_le_mul_of_nonneg_right m3 (Int.mul_nonneg (show 0 ≤ C by omega) (show 0 ≤ A by omega))
  have e : (2 * N + 1) * A * (C * B) = (2 * N + 1) * B * (C * A) := by
    rw [Int.mul_assoc, Int.mul_assoc, Int.mul_left_comm A C B, Int.mul_left_comm B C A, Int.mul_comm A B]
  omega
end Pl

namespace Pl
open PySem PySem.Spec PyProof.Rows L2
/-! ### lists that part -/
theorem part3 : ∀ a b : List Int, (∃ r, b = a ++ r) ∨ (∃ r, a = b ++ r) ∨ ∃ p x y r q, a = p ++ x :: r ∧ b = p ++ y :: q ∧ x ≠ y
  | [], b => .inl ⟨b, rfl⟩
  | x :: a, [] => .inr (.inl ⟨x :: a, rfl⟩)
  | x :: a, y :: b => by
    by_cases e : x = y
    · subst e
      rcases part3 a b with ⟨r, h⟩ | ⟨r, h⟩ | ⟨p, u, v, r, q, h1, h2, h3⟩
      · exact .inl ⟨r, by rw [h]; rfl⟩
      · exact .inr (.inl ⟨r, by rw [h]; rfl⟩)
      · exact .inr (.inr ⟨x :: p, u, v, r, q, by rw [h1]; rfl, by rw [h2]; rfl, h3⟩)
    · exact .inr (.inr ⟨[], x, y, a, b, rfl, rfl, e⟩)
theorem bit_ne {x y : Int} (hx : 0 ≤ x ∧ x ≤ 1) (hy : 0 ≤ y ∧ y ≤ 1) (h : x ≠ y) : (x = 0 ∧ y = 1) ∨ (x = 1 ∧ y = 0) := by omega
theorem Bits.app {p r : List Int} {x : Int} (h : Bits (p ++ x :: r)) : Bits p ∧ (0 ≤ x ∧ x ≤ 1) ∧ Bits r := ⟨fun f hf => h f (List.mem_append_left _ hf), h x (by simp), fun f hf => h f (List.mem_append_right _ (List.mem_cons_of_mem _ hf))⟩
/-- figures whose stretch lies within that of others begin with those -/
theorem within_begins {fs gs : List Int} (hf : Bits fs) (hg : Bits gs) (h : withinB (figS fs) (figS gs) = true) : ∃ r, fs = gs ++ r := by
  rcases part3 fs gs with ⟨r, e⟩ | ⟨r, e⟩ | ⟨p, x, y, r, q, e1, e2, hne⟩
  · obtain ⟨h1, h2⟩ := within_iff.mp h
    have h1 : numOf gs * 2 ^ fs.length ≤ numOf fs * 2 ^ gs.length := h1
    have h2 : (numOf fs + 1) * 2 ^ gs.length ≤ (numOf gs + 1) * 2 ^ fs.length := h2
    rw [Int.add_mul, Int.add_mul] at h2
    have p1 : (2 : Int) ^ gs.length ≤ 2 ^ fs.length := by omega
    have l : gs.length ≤ fs.length := by
      rcases Nat.lt_or_ge fs.length gs.length with z | z
      · have p2 : (2 : Int) ^ (fs.length + 1) ≤ 2 ^ gs.length := pow_mono z
        rw [Int.pow_succ] at p2
        have := pow2_pos fs.length
        omega
      · exact z
    have lr := congrArg List.length e
    rw [List.length_append] at lr
    have : r = [] := List.eq_nil_of_length_eq_zero (by omega)
    subst this
    exact ⟨[], by rw [e, List.append_nil, List.append_nil]⟩
  · exact ⟨r, e⟩
  · exfalso
    subst e1 e2
    obtain ⟨bp, bx, br⟩ := hf.app
    obtain ⟨_, by_, bq⟩ := hg.app
    rcases bit_ne bx by_ hne with ⟨rfl, rfl⟩ | ⟨rfl, rfl⟩
    · exact apart (figS_good hf) (figS_good hg) (figS_good hf) (within_self _) h (figs_part br bq)
    · exact apart (figS_good hg) (figS_good hf) (figS_good hf) h (within_self _) (figs_part bq br)
/-! ### parts -/
def partAt (now : S3) (cs : List Int) (x : Int) : S3 := now.by (belowOf cs x) (nth cs x) cs.sum
theorem part_good {now : S3} {cs : List Int} {g x : Int} (h : now.Good) (p : Plan cs g) (h0 : 0 ≤ x) (h1 : x < cs.length) : (partAt now cs x).Good := by
  have hs := plan_share p h0 h1
  have l0 := h.l0; have w1 := h.w1; have lw := h.lw; have t0 := h.t0
  have b0 := hs.b0; have c1 := hs.c1; have bc := hs.bc
  have m1 : 0 ≤ now.l * cs.sum := Int.mul_nonneg l0 (by omega)
  have m2 : 0 ≤ now.w * belowOf cs x := Int.mul_nonneg (by omega) b0
  have m3 : now.w * 1 ≤ now.w * nth cs x := Int.mul_le_mul_of_nonneg_left c1 (by omega)
  have m4 : now.w * (belowOf cs x + nth cs x) ≤ now.w * cs.sum := Int.mul_le_mul_of_nonneg_left bc (by omega)
  have m5 : (now.l + now.w) * cs.sum ≤ now.t * cs.sum := Int.mul_le_mul_of_nonneg_right lw (by omega)
  rw [Int.mul_add] at m4
  rw [Int.add_mul] at m5
  refine ⟨?_, ?_, ?_⟩
  · show 0 ≤ now.l * cs.sum + now.w * belowOf cs x
    omega
  · show 1 ≤ now.w * nth cs x
    omega
  · show now.l * cs.sum + now.w * belowOf cs x + now.w * nth cs x ≤ now.t * cs.sum
    omega
theorem part_within {now : S3} {cs : List Int} {g x : Int} (h : now.Good) (p : Plan cs g) (h0 : 0 ≤ x) (h1 : x < cs.length) : withinB (partAt now cs x) now = true := by
  have hs := plan_share p h0 h1
  have w1 := h.w1; have t0 := h.t0
  have b0 := hs.b0; have bc := hs.bc
  have m2 : 0 ≤ now.w * belowOf cs x := Int.mul_nonneg (by omega) b0
  have m4 : now.w * (belowOf cs x + nth cs x) ≤ now.w * cs.sum := Int.mul_le_mul_of_nonneg_left bc (by omega)
  rw [Int.mul_add] at m4
  refine within_iff.mpr ⟨?_, ?_⟩
  · show now.l * (now.t * cs.sum) ≤ (now.l * cs.sum + now.w * belowOf cs x) * now.t
    rw [Int.mul_comm now.t, ← Int.mul_assoc]
    exact Int.mul_le_mul_of_nonneg_right (by omega) (by omega)
  · show (now.l * cs.sum + now.w * belowOf cs x + now.w * nth cs x) * now.t ≤ (now.l + now.w) * (now.t * cs.sum)
    rw [Int.mul_comm now.t, ← Int.mul_assoc, Int.add_mul now.l]
    exact Int.mul_le_mul_of_nonneg_right (by omega) (by omega)
theorem below_mono {cs : List Int} {g x y : Int} (p : Plan cs g) (h0 : 0 ≤ x) (hxy : x < y) (h1 : y < cs.length) : belowOf cs x + nth cs x ≤ belowOf cs y := by
  obtain ⟨i, rfl⟩ := Int.eq_ofNat_of_zero_le h0
  obtain ⟨j, rfl⟩ := Int.eq_ofNat_of_zero_le (show 0 ≤ y by omega)
  have e : belowOf cs (i : Int) + nth cs (i : Int) = (cs.take (i + 1)).sum := by
    rw [take_succ_sum (by omega)]
    show (cs.take (i : Int).toNat).sum + _ = _
    rw [Int.toNat_natCast]
  have e2 : belowOf cs (j : Int) = (cs.take j).sum := by
    show (cs.take (j : Int).toNat).sum = _
    rw [Int.toNat_natCast]
  rw [e, e2]
  have e3 : cs.take j = cs.take (i + 1) ++ (cs.take j).drop (i + 1) := by
    have := (List.take_append_drop (i + 1) (cs.take j)).symm
    rw [List.take_take, Nat.min_eq_left (by omega)] at this
    exact this
  rw [e3, List.sum_append]
  have := sum_nonneg (l := (cs.take j).drop (i + 1)) fun c hc => by have := p.pos c (List.mem_of_mem_take (List.mem_of_mem_drop hc)); omega
  omega
/-- a lesser sign's part ends where, or ahead of where, a greater one's begins -/
theorem parts_order {now : S3} {cs : List Int} {g x y : Int} (h : now.Good) (p : Plan cs g) (h0 : 0 ≤ x) (hxy : x < y) (h1 : y < cs.length) : LeF (partAt now cs x).hi (partAt now cs y).lo := by
  have m := below_mono p h0 hxy h1
  have hs := plan_share p h0 (show x < cs.length by omega)
  have w1 := h.w1; have t0 := h.t0
  have m4 : now.w * (belowOf cs x + nth cs x) ≤ now.w * belowOf cs y := Int.mul_le_mul_of_nonneg_left m (by omega)
  rw [Int.mul_add] at m4
  show (now.l * cs.sum + now.w * belowOf cs x + now.w * nth cs x) * (now.t * cs.sum) ≤ (now.l * cs.sum + now.w * belowOf cs y) * (now.t * cs.sum)
  refine Int.mul_le_mul_of_nonneg_right (by omega) (Int.mul_nonneg (by omega) ?_)
  have := hs.b0; have := hs.c1; have := hs.bc
  omega
theorem str_cons (now : S3) (cs : List Int) (g x : Int) (r : List Int) : strOf now cs g (x :: r) = strOf (partAt now cs x) (grown cs g x) g r := rfl
def Signs (n : Nat) (ss : List Int) : Prop := ∀ x ∈ ss, 0 ≤ x ∧ x < n
theorem Signs.grown {cs : List Int} {g x : Int} {ss : List Int} (h : Signs cs.length ss) : Signs (grown cs g x).length ss := by rw [grown_len]; exact h
theorem str_good {g : Int} : ∀ {ss : List Int} {now : S3} {cs : List Int}, now.Good → Plan cs g → Signs cs.length ss → (strOf now cs g ss).Good
  | [], _, _, h, _, _ => h
  | x :: r, now, cs, h, p, hx => by
    have h1 := hx x List.mem_cons_self
    exact str_good (ss := r) (now := partAt now cs x) (cs := grown cs g x) (part_good h p h1.1 h1.2) (p.grown h1.1 h1.2) (Signs.grown fun y hy => hx y (List.mem_cons_of_mem _ hy))
theorem str_within {g : Int} : ∀ {ss : List Int} {now : S3} {cs : List Int}, now.Good → Plan cs g → Signs cs.length ss → withinB (strOf now cs g ss) now = true
  | [], _, _, _, _, _ => within_self _
  | x :: r, now, cs, h, p, hx => by
    have h1 := hx x List.mem_cons_self
    have g1 := part_good h p h1.1 h1.2
    have p1 := p.grown h1.1 h1.2
    have s1 : Signs (grown cs g x).length r := Signs.grown fun y hy => hx y (List.mem_cons_of_mem _ hy)
    exact within_trans (b := partAt now cs x) (str_good (ss := r) (now := partAt now cs x) (cs := grown cs g x) g1 p1 s1) g1 h (str_within (ss := r) (now := partAt now cs x) (cs := grown cs g x) g1 p1 s1) (part_within h p h1.1 h1.2)
theorem str_app {g : Int} : ∀ {ss rs : List Int} {now : S3} {cs : List Int}, strOf now cs g (ss ++ rs) = strOf (strOf now cs g ss) (after cs g ss) g rs
  | [], _, _, _ => rfl
  | _ :: r, _, _, _ => str_app (ss := r)
/-- texts that part: the one with the lesser sign ends where, or ahead of where, the other begins -/
theorem str_part {g x y : Int} {p r q : List Int} {now : S3} {cs : List Int} (h : now.Good) (pl : Plan cs g) (ha : Signs cs.length (p ++ x :: r)) (hb : Signs cs.length (p ++ y :: q)) (hxy : x < y) : LeF (strOf now cs g (p ++ x :: r)).hi (strOf now cs g (p ++ y :: q)).lo := by
  have hp : Signs cs.length p := fun z hz => ha z (List.mem_append_left _ hz)
  obtain ⟨pa, la⟩ := after_ok pl hp
  have gp := str_good h pl hp
  have hx := ha x (by simp)
  have hy := hb y (by simp)
  have gx := part_good gp pa hx.1 (by rw [la]; exact hx.2)
  have gy := part_good gp pa hy.1 (by rw [la]; exact hy.2)
  have px := pa.grown hx.1 (show x < (after cs g p).length by rw [la]; exact hx.2)
  have py := pa.grown hy.1 (show y < (after cs g p).length by rw [la]; exact hy.2)
  have sr : Signs (grown (after cs g p) g x).length r := by rw [grown_len, la]; exact fun z hz => ha z (List.mem_append_right _ (List.mem_cons_of_mem _ hz))
  have sq : Signs (grown (after cs g p) g y).length q := by rw [grown_len, la]; exact fun z hz => hb z (List.mem_append_right _ (List.mem_cons_of_mem _ hz))
  rw [str_app, str_app, str_cons, str_cons]
  have o := parts_order gp pa hx.1 hxy (by rw [la]; exact hy.2)
  obtain ⟨_, w1⟩ := within_iff.mp (str_within gx px sr)
  obtain ⟨w2, _⟩ := within_iff.mp (str_within gy py sq)
  have g1 := str_good gx px sr
  have g2 := str_good gy py sq
  exact (w1.trans o g1.t0 gx.t0 gy.t0).trans w2 g1.t0 gy.t0 g2.t0
/-! ### certain by figures -/
def signIn (goal now : S3) (cs : List Int) : Option Nat := (List.range cs.length).find? fun (x : Nat) => withinB goal (partAt now cs (x : Int))
def certainOf (goal : S3) (g : Int) : Nat → S3 → List Int → List Int
  | 0, _, _ => []
  | m + 1, now, cs => match signIn goal now cs with
    | none => []
    | some x => (x : Int) :: certainOf goal g m (partAt now cs (x : Int)) (grown cs g (x : Int))
theorem signIn_some {goal now : S3} {cs : List Int} {x : Nat} (h : signIn goal now cs = some x) : x < cs.length ∧ withinB goal (partAt now cs (x : Int)) = true := by
  have h1 := List.mem_of_find?_eq_some h
  have h2 := List.find?_some h
  exact ⟨List.mem_range.mp h1, h2⟩
theorem signIn_is {goal now : S3} {cs : List Int} {g : Int} {x : Nat} (gg : goal.Good) (h : now.Good) (p : Plan cs g) (hx : x < cs.length) (hw : withinB goal (partAt now cs (x : Int)) = true) : signIn goal now cs = some x := by
  cases e : signIn goal now cs with
  | none =>
    have := List.find?_eq_none.mp e x (List.mem_range.mpr hx)
    exact absurd hw this
  | some y =>
    obtain ⟨hy, wy⟩ := signIn_some e
    have gx := part_good h p (x := (x : Int)) (by omega) (by omega)
    have gy := part_good h p (x := (y : Int)) (by omega) (by omega)
    rcases Nat.lt_trichotomy x y with z | z | z
    · exact absurd (parts_order h p (by omega) (by omega) (by omega)) (apart gx gy gg hw wy)
    · rw [z]
    · exact absurd (parts_order h p (by omega) (by omega) (by omega)) (apart gy gx gg wy hw)
theorem certain_signs {goal : S3} {g : Int} : ∀ {m : Nat} {now : S3} {cs : List Int}, Plan cs g → (certainOf goal g m now cs).length ≤ m ∧ Signs cs.length (certainOf goal g m now cs)
  | 0, _, _, _ => ⟨Nat.le_refl _, fun _ h => nomatch h⟩
  | m + 1, now, cs, p => by
    unfold certainOf
    cases e : signIn goal now cs with
    | none => exact ⟨Nat.zero_le _, fun _ h => nomatch h⟩
    | some x =>
      obtain ⟨hx, _⟩ := signIn_some e
      have p1 := p.grown (s := (x : Int)) (by omega) (by omega)
      obtain ⟨a, b⟩ := certain_signs (goal := goal) (m := m) (now := partAt now cs (x : Int)) p1
      refine ⟨by rw [List.length_cons]; omega, fun y hy => ?_⟩
      rcases List.mem_cons.mp hy with rfl | hy
      · omega
      · have := b y hy
        rw [grown_len] at this
        exact this
/-- its text's stretch holds the goal -/
theorem certain_within {goal : S3} {g : Int} : ∀ {m : Nat} {now : S3} {cs : List Int}, withinB goal now = true → withinB goal (strOf now cs g (certainOf goal g m now cs)) = true
  | 0, _, _, h => h
  | m + 1, now, cs, h => by
    unfold certainOf
    cases e : signIn goal now cs with
    | none => exact h
    | some x => exact certain_within (signIn_some e).2
/-- of a text that holds the goal the first signs come back -/
theorem certain_back {goal : S3} {g : Int} (gg : goal.Good) : ∀ {ss : List Int} {m : Nat} {now : S3} {cs : List Int}, now.Good → Plan cs g → Signs cs.length ss → withinB goal (strOf now cs g ss) = true → m ≤ ss.length → certainOf goal g m now cs = ss.take m
  | _, 0, _, _, _, _, _, _, _ => by rw [List.take_zero]; rfl
  | [], m + 1, _, _, _, _, _, _, hm => absurd hm (by simp)
  | x :: r, m + 1, now, cs, h, p, hs, hw, hm => by
    have hx := hs x List.mem_cons_self
    have g1 := part_good h p hx.1 hx.2
    have p1 := p.grown hx.1 hx.2
    have s1 : Signs (grown cs g x).length r := Signs.grown fun y hy => hs y (List.mem_cons_of_mem _ hy)
    obtain ⟨i, rfl⟩ := Int.eq_ofNat_of_zero_le hx.1
    have w1 : withinB goal (partAt now cs (i : Int)) = true := within_trans gg (str_good g1 p1 s1) g1 hw (str_within g1 p1 s1)
    unfold certainOf
    rw [signIn_is gg h p (by omega) w1, List.take_succ_cons]
    show (i : Int) :: _ = _
    rw [certain_back gg g1 p1 s1 hw (by simpa using hm)]
end Pl

namespace Pl
open PySem PySem.Spec PyProof.Rows L2
/-! ### certain by signs -/
def sureStep (s : S3) (fs : List Int) : Option Int := if withinB s (figS (fs ++ [0])) then some 0 else if withinB s (figS (fs ++ [1])) then some 1 else none
def sureGo (s : S3) : Nat → List Int → List Int
  | 0, fs => fs
  | n + 1, fs => match sureStep s fs with
    | none => fs
    | some f => sureGo s n (fs ++ [f])
def sureOf (s : S3) : List Int := sureGo s s.t.toNat []
theorem sureStep_some {s : S3} {fs : List Int} {f : Int} (h : sureStep s fs = some f) : (f = 0 ∨ f = 1) ∧ withinB s (figS (fs ++ [f])) = true := by
  unfold sureStep at h
  split at h
  · cases h; exact ⟨.inl rfl, by assumption⟩
  · split at h
    · cases h; exact ⟨.inr rfl, by assumption⟩
    · cases h
theorem sureStep_none {s : S3} {fs : List Int} (h : sureStep s fs = none) : ∀ f, (0 ≤ f ∧ f ≤ 1) → withinB s (figS (fs ++ [f])) = false := by
  intro f hf
  unfold sureStep at h
  split at h
  · cases h
  · rename_i n0
    split at h
    · cases h
    · rename_i n1
      have : f = 0 ∨ f = 1 := by omega
      rcases this with rfl | rfl
      · exact Bool.eq_false_iff.mpr n0
      · exact Bool.eq_false_iff.mpr n1
theorem bits_snoc {fs : List Int} {f : Int} (h : Bits fs) (hf : f = 0 ∨ f = 1) : Bits (fs ++ [f]) := fun x hx => by
  rcases List.mem_append.mp hx with hx | hx
  · exact h x hx
  · rw [List.mem_singleton.mp hx]
    omega
/-- figures that hold a stretch are few -/
theorem sure_few {s : S3} (h : s.Good) {fs : List Int} (hb : Bits fs) (hw : withinB s (figS fs) = true) : (2 : Int) ^ fs.length * s.w ≤ s.t := by
  obtain ⟨h1, h2⟩ := within_iff.mp hw
  have h1 : numOf fs * s.t ≤ s.l * 2 ^ fs.length := h1
  have h2 : (s.l + s.w) * 2 ^ fs.length ≤ (numOf fs + 1) * s.t := h2
  rw [Int.add_mul, Int.add_mul] at h2
  rw [Int.mul_comm]
  omega
theorem sureGo_ok {s : S3} (h : s.Good) : ∀ (n : Nat) (fs : List Int), Bits fs → withinB s (figS fs) = true → s.t.toNat ≤ fs.length + n → Bits (sureGo s n fs) ∧ withinB s (figS (sureGo s n fs)) = true ∧ sureStep s (sureGo s n fs) = none
  | 0, fs, hb, hw, hn => by
    have t0 := h.t0
    have f := sure_few h hb hw
    have p := lt_pow2 fs.length
    have m := Int.mul_le_mul_of_nonneg_left h.w1 (show (0 : Int) ≤ 2 ^ fs.length by have := pow2_pos fs.length; omega)
    exfalso
    omega
  | n + 1, fs, hb, hw, hn => by
    unfold sureGo
    cases e : sureStep s fs with
    | none => exact ⟨hb, hw, e⟩
    | some f =>
      obtain ⟨hf, w⟩ := sureStep_some e
      exact sureGo_ok h n _ (bits_snoc hb hf) w (by rw [List.length_append, List.length_singleton]; omega)
theorem figS_nil : figS [] = whole3 := rfl
theorem in_whole {s : S3} (h : s.Good) : withinB s whole3 = true := within_iff.mpr ⟨by
    show 0 * s.t ≤ s.l * 1
    have := h.l0
    omega, by
    show (s.l + s.w) * 1 ≤ (0 + 1) * s.t
    have := h.lw
    omega⟩
theorem sure_ok {s : S3} (h : s.Good) : Bits (sureOf s) ∧ withinB s (figS (sureOf s)) = true ∧ sureStep s (sureOf s) = none :=
  sureGo_ok h s.t.toNat [] (fun _ z => nomatch z) (in_whole h) (by omega)
/-- the longest: all figures that hold it begin these -/
theorem sure_longest {s : S3} (h : s.Good) {gs : List Int} (hg : Bits gs) (hw : withinB s (figS gs) = true) : ∃ r, sureOf s = gs ++ r := by
  obtain ⟨hb, w, no⟩ := sure_ok h
  rcases part3 (sureOf s) gs with ⟨r, e⟩ | ⟨r, e⟩ | ⟨p, x, y, r, q, e1, e2, hne⟩
  · cases r with
    | nil => exact ⟨[], by rw [e, List.append_nil, List.append_nil]⟩
    | cons f r =>
      exfalso
      have e' : gs = (sureOf s ++ [f]) ++ r := by rw [e]; simp
      rw [e'] at hg hw
      have b1 : Bits (sureOf s ++ [f]) := fun x hx => hg x (List.mem_append_left _ hx)
      have b2 : Bits r := fun x hx => hg x (List.mem_append_right _ hx)
      have q := within_trans h (figS_good hg) (figS_good b1) hw (figs_prefix b2)
      have := sureStep_none no f (b1 f (by simp))
      rw [q] at this
      cases this
  · exact ⟨r, e⟩
  · exfalso
    rw [e1] at hb w
    subst e2
    obtain ⟨_, bx, br⟩ := hb.app
    obtain ⟨_, by_, bq⟩ := hg.app
    rcases bit_ne bx by_ hne with ⟨rfl, rfl⟩ | ⟨rfl, rfl⟩
    · exact apart (figS_good hb) (figS_good hg) h w hw (figs_part br bq)
    · exact apart (figS_good hg) (figS_good hb) h hw w (figs_part bq br)
/-- with what is certain by signs begin the figures of what lies within, and what is certain by more signs -/
theorem sure_begins {s u : S3} (h : s.Good) (hu : u.Good) (w : withinB u s = true) {fs : List Int} (hf : Bits fs) (hw : withinB (figS fs) u = true) : ∃ r, fs = sureOf s ++ r := by
  obtain ⟨hb, w2, _⟩ := sure_ok h
  have gf := figS_good hf
  exact within_begins hf hb (within_trans gf h (figS_good hb) (within_trans gf hu h hw w) w2)
theorem sure_grows {s u : S3} (h : s.Good) (hu : u.Good) (w : withinB u s = true) : ∃ r, sureOf u = sureOf s ++ r := by
  obtain ⟨hb, w2, _⟩ := sure_ok h
  exact sure_longest hu hb (within_trans hu h (figS_good hb) w w2)
theorem sure_len {s : S3} (h : s.Good) {n : Nat} (ht : s.t < 2 ^ n) : (sureOf s).length ≤ n := by
  obtain ⟨hb, w2, _⟩ := sure_ok h
  have f := sure_few h hb w2
  have m := Int.mul_le_mul_of_nonneg_left h.w1 (show (0 : Int) ≤ 2 ^ (sureOf s).length by have := pow2_pos (sureOf s).length; omega)
  rcases Nat.lt_or_ge n (sureOf s).length with z | z
  · have := pow_mono (Nat.le_of_lt z)
    omega
  · exact z
/-! ### certain by figures, more of it -/
theorem certain_take {goal : S3} {g : Int} : ∀ {m k : Nat} {now : S3} {cs : List Int}, k ≤ m → (certainOf goal g m now cs).take k = certainOf goal g k now cs
  | _, 0, _, _, _ => by rw [List.take_zero]; rfl
  | m + 1, k + 1, now, cs, h => by
    unfold certainOf
    cases e : signIn goal now cs with
    | none => exact List.take_nil
    | some x =>
      show (((x : Int) :: certainOf goal g m _ _).take (k + 1)) = (x : Int) :: certainOf goal g k _ _
      rw [List.take_succ_cons, certain_take (by omega)]
/-- more figures: no sign is taken back -/
theorem certain_grows {goal goal' : S3} {g : Int} {m : Nat} {now : S3} {cs : List Int} (gg : goal.Good) (gg' : goal'.Good) (h : now.Good) (p : Plan cs g) (w : withinB goal' goal = true) (hn : withinB goal now = true) : ∃ r, certainOf goal' g m now cs = certainOf goal g m now cs ++ r := by
  obtain ⟨l, s⟩ := certain_signs (goal := goal) (m := m) (now := now) p
  have w1 := certain_within (g := g) (m := m) (cs := cs) hn
  have b := certain_back gg' h p s (within_trans gg' gg (str_good h p s) w w1) (Nat.le_refl _)
  rw [List.take_length, ← certain_take l] at b
  exact ⟨(certainOf goal' g m now cs).drop (certainOf goal g m now cs).length, by
    have := (List.take_append_drop (certainOf goal g m now cs).length (certainOf goal' g m now cs)).symm
    rw [b] at this
    exact this⟩
/-! ### texts whose stretches share something -/
theorem part_less {now : S3} {cs : List Int} {g x : Int} (h : now.Good) (p : Plan cs g) (h0 : 0 ≤ x) (h1 : x < cs.length) : withinB now (partAt now cs x) = false := by
  rw [Bool.eq_false_iff]
  intro z
  obtain ⟨z1, z2⟩ := within_iff.mp z
  have z1 : (now.l * cs.sum + now.w * belowOf cs x) * now.t ≤ now.l * (now.t * cs.sum) := z1
  have z2 : (now.l + now.w) * (now.t * cs.sum) ≤ (now.l * cs.sum + now.w * belowOf cs x + now.w * nth cs x) * now.t := z2
  have w1 := h.w1; have t0 := h.t0
  have hs := plan_share p h0 h1
  have b0 := hs.b0; have c1 := hs.c1; have bc := hs.bc
  rw [Int.mul_comm now.t, ← Int.mul_assoc] at z1 z2
  have y1 := Int.le_of_mul_le_mul_right z1 t0
  have y2 := Int.le_of_mul_le_mul_right z2 t0
  rw [Int.add_mul] at y2
  have m : now.w * (cs.sum - nth cs x) ≤ 0 := by
    rw [Int.mul_sub]
    omega
  have lt : nth cs x < cs.sum := by
    have l2 := p.two
    rcases Int.lt_or_le 0 x with z | z
    · have := below_mono p (x := 0) (y := x) (by omega) z h1
      have q := plan_share p (s := 0) (by omega) (by omega)
      have := q.b0; have := q.c1
      omega
    · have e : x = 0 := by omega
      subst e
      have := below_mono p (x := 0) (y := 1) (by omega) (by omega) (by omega)
      have q := plan_share p (s := 1) (by omega) (by omega)
      have := q.c1; have := q.bc
      omega
  have m2 := Int.mul_pos (show 0 < now.w by omega) (show 0 < cs.sum - nth cs x by omega)
  omega
/-- a text whose stretch holds another text's stretch begins that text -/
theorem text_begins {now : S3} {cs : List Int} {g : Int} {a b : List Int} (h : now.Good) (p : Plan cs g) (ha : Signs cs.length a) (hb : Signs cs.length b) (w : withinB (strOf now cs g b) (strOf now cs g a) = true) : ∃ r, b = a ++ r := by
  have ga := str_good h p ha
  have gb := str_good h p hb
  rcases part3 a b with ⟨r, e⟩ | ⟨r, e⟩ | ⟨q, x, y, r, u, e1, e2, hne⟩
  · exact ⟨r, e⟩
  · cases r with
    | nil => exact ⟨[], by rw [e, List.append_nil, List.append_nil]⟩
    | cons x r =>
      exfalso
      subst e
      obtain ⟨pa, la⟩ := after_ok p hb
      have hx := ha x (by simp)
      have g1 := part_good gb pa hx.1 (by rw [la]; exact hx.2)
      have p1 := pa.grown hx.1 (show x < (after cs g b).length by rw [la]; exact hx.2)
      have s1 : Signs (grown (after cs g b) g x).length r := by rw [grown_len, la]; exact fun z hz => ha z (List.mem_append_right _ (List.mem_cons_of_mem _ hz))
      rw [str_app, str_cons] at w ga
      have q := within_trans gb ga g1 w (str_within g1 p1 s1)
      rw [part_less gb pa hx.1 (by rw [la]; exact hx.2)] at q
      cases q
  · exfalso
    subst e1 e2
    rcases Int.lt_or_gt_of_ne hne with z | z
    · exact apart ga gb gb w (within_self _) (str_part h p ha hb z)
    · exact apart gb ga gb (within_self _) w (str_part h p hb ha z)
/-- unlike texts with as many signs: no figures within one begin with figures within the other -/
theorem figs_unlike {now : S3} {cs : List Int} {g : Int} {a b : List Int} (h : now.Good) (p : Plan cs g) (ha : Signs cs.length a) (hb : Signs cs.length b) (hl : a.length = b.length) (hne : a ≠ b) {fs gs : List Int} (hf : Bits fs) (hg : Bits gs) (wf : withinB (figS fs) (strOf now cs g a) = true) (wg : withinB (figS (fs ++ gs)) (strOf now cs g b) = true) : False := by
  have ga := str_good h p ha
  have gb := str_good h p hb
  have bfg : Bits (fs ++ gs) := fun x hx => by
    rcases List.mem_append.mp hx with hx | hx
    · exact hf x hx
    · exact hg x hx
  have gfg := figS_good bfg
  have wa := within_trans gfg (figS_good hf) ga (figs_prefix hg) wf
  rcases part3 a b with ⟨r, e⟩ | ⟨r, e⟩ | ⟨q, x, y, r, u, e1, e2, hxy⟩
  · have : r = [] := List.eq_nil_of_length_eq_zero (by rw [e, List.length_append] at hl; omega)
    subst this
    exact hne (by rw [e, List.append_nil])
  · have : r = [] := List.eq_nil_of_length_eq_zero (by rw [e, List.length_append] at hl; omega)
    subst this
    exact hne (by rw [e, List.append_nil])
  · subst e1 e2
    rcases Int.lt_or_gt_of_ne hxy with z | z
    · exact apart ga gb gfg wa wg (str_part h p ha hb z)
    · exact apart gb ga gfg wg wa (str_part h p hb ha z)
/-- the figures stand in the order of the texts -/
theorem figs_order {now : S3} {cs : List Int} {g x y : Int} {p r q fs gs : List Int} (h : now.Good) (pl : Plan cs g) (ha : Signs cs.length (p ++ x :: r)) (hb : Signs cs.length (p ++ y :: q)) (hxy : x < y) (hf : Bits fs) (hg : Bits gs) (wf : withinB (figS fs) (strOf now cs g (p ++ x :: r)) = true) (wg : withinB (figS gs) (strOf now cs g (p ++ y :: q)) = true) : ∃ p' r' q', fs = p' ++ 0 :: r' ∧ gs = p' ++ 1 :: q' := by
  have ga := str_good h pl ha
  have gb := str_good h pl hb
  have gf := figS_good hf
  have gg := figS_good hg
  have o := str_part h pl ha hb hxy
  rcases part3 fs gs with ⟨u, e⟩ | ⟨u, e⟩ | ⟨p', x', y', r', q', e1, e2, hne⟩
  · subst e
    have bu : Bits u := fun z hz => hg z (List.mem_append_right _ hz)
    exact absurd o (apart ga gb gg (within_trans gg gf ga (figs_prefix bu) wf) wg)
  · subst e
    have bu : Bits u := fun z hz => hf z (List.mem_append_right _ hz)
    exact absurd o (apart ga gb gf wf (within_trans gf gg gb (figs_prefix bu) wg))
  · subst e1 e2
    obtain ⟨_, bx, br⟩ := hf.app
    obtain ⟨_, by_, bq⟩ := hg.app
    rcases bit_ne bx by_ hne with ⟨rfl, rfl⟩ | ⟨rfl, rfl⟩
    · exact ⟨p', r', q', rfl, rfl⟩
    · exfalso
      have o2 := figs_part (p := p') bq br
      obtain ⟨_, w1⟩ := within_iff.mp wf
      obtain ⟨w2, _⟩ := within_iff.mp wg
      have z1 := ((w1.trans o gf.t0 ga.t0 gb.t0).trans w2 gf.t0 gb.t0 gg.t0).trans (gg.lohi.le.trans o2 gg.t0 gg.t0 gf.t0) gf.t0 gg.t0 gf.t0
      exact gf.lohi.not_le z1
end Pl

namespace Pl
open PySem PySem.Spec PyProof.Rows L2
/-- a < b of data of like kinds -/
def rLtD (K : PySem.W.Frag) : R2 := fun x y H Q => ∃ d e, Dp K H x d ∧ Dp K H y e ∧ PySem.W.alike d e = true ∧ d ≠ .none ∧ d.depth ≤ 64 ∧ Q (.bl (PySem.W.dataLt d e)) H
theorem op_ltDK {X : Cx} {K : PySem.W.Frag} (hK : X.K = K) (hu : X.A.units + 64 < cLine) : OpR X (compareOp .Lt) (rLtD K) := by
  subst hK
  intro pins s σ H x y v u Q I rx ry h
  obtain ⟨d, e, hd, he, al, hn, hz, q⟩ := h
  obtain ⟨as, r1⟩ := Dp.reads I d x v hd rx
  obtain ⟨bs, r2⟩ := Dp.reads I e y u he ry
  exact PySem.W.lt_data r1 r2 al hn (by have := Nat.min_le_left d.depth e.depth; omega) ⟨.bl _, H, I, rfl, q⟩
theorem alike_ints : ∀ ns ms : List Int, PySem.W.alikeAll (ns.map PyData.int) (ms.map PyData.int) = true
  | [], _ => by rw [List.map_nil, PySem.W.alikeAll]
  | _ :: _, [] => by rw [List.map_nil, List.map_cons]; rfl
  | n :: ns, m :: ms => by
    rw [List.map_cons, List.map_cons, PySem.W.alikeAll, alike_ints ns ms]
    rfl
theorem lt_part : ∀ {p : List Int} {x y : Int} {r q : List Int}, x ≠ y → PyProof.Rows.lexLt itemOrd (PySem.W.keyToksAll ((p ++ x :: r).map PyData.int)) (PySem.W.keyToksAll ((p ++ y :: q).map PyData.int)) = PySem.W.dataLt (.int x) (.int y)
  | [], x, y, r, q, h => PySem.W.dataLt_all_no (x := .int x) (y := .int y) (by rw [PySem.W.alike]) (by
      show PyData.eqv (.int x) (.int y) = false
      unfold PyData.eqv
      exact beq_eq_false_iff_ne.mpr h)
  | z :: p, x, y, r, q, h => (PySem.W.dataLt_all_yes (x := .int z) (y := .int z) (by rw [PySem.W.alike]) (by
      unfold PyData.eqv
      exact beq_self_eq_true z)).trans (lt_part (p := p) h)
theorem ltList_part {p : List Int} {x y : Int} {r q : List Int} (h : x ≠ y) : PySem.W.dataLt (.list ((p ++ x :: r).map PyData.int)) (.list ((p ++ y :: q).map PyData.int)) = decide (x < y) := by
  rw [PySem.W.dataLt_list, lt_part h, PySem.W.dataLt_int]
theorem ev_ltL {K : PySem.W.Frag} {ta tb : TE} {σ : L2.St} {H : Hp} {ns ms : List Int} (ha : EvD K ta σ H (.list (ns.map PyData.int))) (hb : EvD K tb σ H (.list (ms.map PyData.int))) : EvV (tOp (rLtD K) ta tb) σ H (.bl (PySem.W.dataLt (.list (ns.map PyData.int)) (.list (ms.map PyData.int)))) := fun H1 Q s1 k =>
  ha H1 _ s1 fun v H2 s2 d2 => hb H2 _ (s1.trans s2) fun u H3 s3 d3 => ⟨_, _, dp_same s3 _ _ d2, d3, by rw [PySem.W.alike]; exact alike_ints ns ms, (fun z => nomatch z), Nat.le_trans (show ShN 1 (.list (ns.map PyData.int)) from sh_lst sh_ints).2 (by omega), k H3 (s2.trans s3)⟩
end Pl

namespace Pl
open PySem PySem.Spec PyProof.Rows L2
/-! ### shifts, masks -/
def rShl : R2 := fun x y H Q => ∃ (i : Int) (k : Nat), x = .int i ∧ y = .int (k : Int) ∧ CShl i (k : Int) ∧ Q (.int (i * 2 ^ k)) H
def rShr : R2 := fun x y H Q => ∃ (i : Int) (k : Nat), x = .int i ∧ y = .int (k : Int) ∧ Q (.int (i / 2 ^ k)) H
def rAnd1 : R2 := fun x y H Q => ∃ i : Int, x = .int i ∧ y = .int 1 ∧ Q (.int (i % 2)) H
section
variable {X : Cx}
theorem op_shlP : OpR X (binaryOp .LShift) rShl := op_shlN
theorem op_shrP : OpR X (binaryOp .RShift) rShr := op_shrN
theorem op_and1 : OpR X (binaryOp .BitAnd) rAnd1 := by
  intro pins s σ H x y v u Q I rx ry h
  obtain ⟨i, rfl, rfl, q⟩ := h
  exact op_andM pins s σ H _ _ v u Q I rx ry ⟨i, 1, rfl, rfl, q⟩
end
section
variable {K : PySem.W.Frag} {te ta tb tc : TE} {tt : TT} {σ : L2.St} {H : Hp} {i : Int} {k : Nat} {d1 d2 d : PyData} {D : Ends} {u tw : TS} {a b : Nat}
theorem ev_shl (ha : EvV ta σ H (.int i)) (hb : EvV tb σ H (.int (k : Int))) (hc : CShl i (k : Int)) : EvV (tOp rShl ta tb) σ H (.int (i * 2 ^ k)) := fun H1 Q s1 q =>
  ha H1 _ s1 fun H2 s2 => hb H2 _ (s1.trans s2) fun H3 s3 => ⟨i, k, rfl, rfl, hc, q H3 (s2.trans s3)⟩
theorem ev_shr (ha : EvV ta σ H (.int i)) (hb : EvV tb σ H (.int (k : Int))) : EvV (tOp rShr ta tb) σ H (.int (i / 2 ^ k)) := fun H1 Q s1 q =>
  ha H1 _ s1 fun H2 s2 => hb H2 _ (s1.trans s2) fun H3 s3 => ⟨i, k, rfl, rfl, q H3 (s2.trans s3)⟩
theorem ev_and1 (ha : EvV ta σ H (.int i)) (hb : EvV tb σ H (.int 1)) : EvV (tOp rAnd1 ta tb) σ H (.int (i % 2)) := fun H1 Q s1 q =>
  ha H1 _ s1 fun H2 s2 => hb H2 _ (s1.trans s2) fun H3 s3 => ⟨i, rfl, rfl, q H3 (s2.trans s3)⟩
/-- a while by an invariant with a measure -/
theorem whileI (Pv : Nat → L2.St → Hp → Prop) (n0 : Nat) (h0 : Pv n0 σ H)
    (hs : ∀ n σ' H', Pv n σ' H' → ∃ c, EvB tt σ' H' c ∧ (c = true → ∀ H1, Same H' H1 → tw { nx := fun σ2 H2 => ∃ m, m < n ∧ Pv m σ2 H2, rt := D.rt, bk := u D, ct := fun σ2 H2 => ∃ m, m < n ∧ Pv m σ2 H2 } σ' H1) ∧ (c = false → ∀ H1, Same H' H1 → u D σ' H1)) : tSeq (tWhile tt tw) u D σ H := by
  refine ⟨Pv, ⟨n0, h0⟩, fun m σ' H' p => ?_⟩
  obtain ⟨c, hb, ht, hf⟩ := hs m σ' H' p
  refine hb H' _ (Same.refl _) fun H1 s1 => ?_
  cases c with
  | false => exact iteF (hf rfl H1 s1)
  | true => exact iteT ⟨fun σ2 H2 => ∃ k, k < m ∧ Pv k σ2 H2, fun _ _ h => h, ht rfl H1 s1⟩
theorem whileL (Pv : Nat → L2.St → Hp → Prop) (n0 : Nat) (h0 : Pv n0 σ H)
    (hs : ∀ n σ' H', Pv n σ' H' → ∃ c, EvB tt σ' H' c ∧ (c = true → ∀ H1, Same H' H1 → tw { nx := fun σ2 H2 => ∃ m, m < n ∧ Pv m σ2 H2, rt := D.rt, bk := D.nx, ct := fun σ2 H2 => ∃ m, m < n ∧ Pv m σ2 H2 } σ' H1) ∧ (c = false → ∀ H1, Same H' H1 → D.nx σ' H1)) : tWhile tt tw D σ H :=
  whileI (u := fun D => D.nx) Pv n0 h0 hs
theorem augI {j : Nat} {v : Int} (hi : σ[j]? = some (some (.int v))) (h : EvV te σ H (.int i)) (k : ∀ H1, Same H H1 → u D (σ.set j (some (.int (v + i)))) H1) : tSeq (tAug j te (ipI fun i j => i + j)) u D σ H := by
  refine ⟨_, hi, h H _ (Same.refl H) fun H1 s1 => ⟨_, _, rfl, rfl, k H1 s1⟩⟩
end
/-! ### a comprehension over a range from its end -/
theorem lc_dpV {K : PySem.W.Frag} {m : Nat} {te0 : TE} {j : Nat} {σ : L2.St} {H : Hp} {Q : VK} {te : TE} (g : Nat → PyData) (hi : ∀ R : VK, R (.int (m : Int)) H → te0 σ H R) (hz : m ≤ 100000)
    (he : ∀ n H' D (R : VK), n < m → H D = none → (∃ acc, H' D = some (.lst acc)) → Same H H' → (∀ y H'', Same H' H'' → Dp K (erase D H'') y (g n) → R y H'') → te ((wipe σ [j]).set j (some (.int ((m - 1 - n : Nat) : Int)))) H' R)
    (hd : ∀ D acc H', H D = none → Same H H' → H' D = some (.lst acc) → DpAll K H' acc ((List.range m).map g) → Q (.ref D) H') :
    tLc (iRevR (tRg1 te0)) (gName j) tYes te [j] σ H Q := by
  have hw : ∀ x, wipe ((wipe σ [j]).set j (some x)) [j] = wipe σ [j] := fun x => by
    show ((σ.set j none).set j (some x)).set j none = σ.set j none
    rw [List.set_set, List.set_set]
  show te0 σ H _
  refine hi _ ⟨(m : Int), rfl, by omega, by omega, by omega, by omega, ?_⟩
  rw [Int.sub_zero, Int.toNat_natCast]
  intro D hD
  refine ⟨fun i n H' => n = m - i ∧ i ≤ m ∧ ∃ acc, H' D = some (.lst acc) ∧ Same H (erase D H') ∧ acc.length ≤ i ∧ DpAll K (erase D H') acc ((List.range i).map g), ⟨m, rfl, Nat.zero_le _, [], upd_same, same_erase (same_upd hD) hD, Nat.le_refl _, .nil⟩, ?_⟩
  rintro i n H' ⟨rfl, hi, acc, e, sm, hl, dp⟩
  by_cases hlt : i < m
  · refine .inr ⟨hlt, fun H2 => i + 1 ≤ m ∧ ∃ acc, H2 D = some (.lst acc) ∧ Same H (erase D H2) ∧ acc.length ≤ i + 1 ∧ DpAll K (erase D H2) acc ((List.range (i + 1)).map g), fun H2 h2 => ⟨m - (i + 1), by omega, rfl, h2⟩, fun x H2 y => ?_⟩
    obtain ⟨e1, e2⟩ := y
    subst e1 e2
    have ev : 0 + (m : Int) - 1 + (i : Nat) * (-1) = ((m - 1 - i : Nat) : Int) := by omega
    rw [ev]
    show wipe ((wipe σ [j]).set j (some (.int ((m - 1 - i : Nat) : Int)))) [j] = wipe σ [j] ∧ tYes _ _ _
    refine ⟨hw _, ?_⟩
    unfold tYes
    simp only [if_true]
    refine he i _ D _ hlt hD ⟨acc, e⟩ (same_noerase sm) fun y H3 s3 hy => ?_
    have e3 := s3 D _ e
    refine ⟨acc, e3, Nat.lt_of_le_of_lt hl (Nat.lt_of_lt_of_le (show i < 100001 by omega) (by decide)), hlt, acc ++ [y], upd_same, ?_, ?_, ?_⟩
    · rw [erase_upd]
      exact sm.trans (erase_mono s3)
    · rw [List.length_append]
      exact Nat.succ_le_succ hl
    · rw [erase_upd, List.range_succ, List.map_append]
      exact dpa_app (dpa_same (erase_mono s3) _ _ dp) (.cons hy .nil)
  · have em : i = m := by omega
    subst em
    exact .inl ⟨Nat.le_refl _, hd D acc H' hD (same_noerase sm) e (dpa_same (erase_same D H') _ _ dp)⟩
theorem evo_lcV {K : PySem.W.Frag} {te tb : TE} {σ : L2.St} {H : Hp} {j m : Nat} (g : Nat → PyData) (hs : EvV te σ H (.int (m : Int))) (hz : m ≤ 100000)
    (he : ∀ n H1 D (R : VK), n < m → Same H H1 → (∃ acc, H1 D = some (.lst acc)) → Same H (erase D H1) → (∀ y H2, Same H1 H2 → Dp K (erase D H2) y (g n) → R y H2) → tb ((wipe σ [j]).set j (some (.int ((m - 1 - n : Nat) : Int)))) H1 R) :
    EvO K (tLc (iRevR (tRg1 te)) (gName j) tYes tb [j]) σ H ((List.range m).map g) := fun H1 Q s1 k => by
  show te σ H1 fun x H1 => tLc (iRevR (tRg1 (tC x))) (gName j) tYes tb [j] σ H1 Q
  refine hs H1 _ s1 fun H2 s2 => ?_
  refine lc_dpV (K := K) (m := m) g (fun R h => h) hz (fun n H3 D R e3 hD hacc s3 k3 => he n H3 D R e3 ((s1.trans s2).trans s3) hacc ((s1.trans s2).trans (same_erase s3 hD)) k3) (fun D acc H3 hD s3 e3 d3 => ?_)
  exact k D acc H3 (s2.free hD) (s2.trans s3) e3 d3
/-! ### a comprehension over a list, whoever holds it -/
theorem evo_lcL {K : PySem.W.Frag} {te tb : TE} {tt : TT} {σ : L2.St} {H : Hp} {ds : List PyData} {j : Nat} (w : PyData) (keep : PyData → Bool) (g : PyData → PyData) (hs : EvD K te σ H (.list ds)) (hz : ds.length ≤ 100000)
    (ht : ∀ x d H1 (R : Bool → Hp → Prop), d ∈ ds → Same H H1 → Dp K H1 x d → (∀ H2, Same H1 H2 → R (keep d) H2) → tt ((wipe σ [j]).set j (some x)) H1 R)
    (he : ∀ x d H1 D (R : VK), d ∈ ds → keep d = true → Same H H1 → Dp K (erase D H1) x d → (∃ acc, H1 D = some (.lst acc)) → Same H (erase D H1) → (∀ y H2, Same H1 H2 → Dp K (erase D H2) y (g d) → R y H2) → tb ((wipe σ [j]).set j (some x)) H1 R) :
    EvO K (tLc (iList K te) (gName j) tt tb [j]) σ H ((ds.filter keep).map g) := fun H1 Q s1 k => by
  show te σ H1 fun x H1 => tLc (iList K (tC x)) (gName j) tt tb [j] σ H1 Q
  refine hs H1 _ s1 fun v H2 s2 d2 => ?_
  obtain ⟨p, vs, rfl, hq, d3⟩ : ∃ p vs, v = .ref p ∧ SqL K H2 p vs ∧ DpAll K H2 vs ds := by
    cases d2 with
    | lst hq d2 => exact ⟨_, _, rfl, hq, d2⟩
  have hl := dpa_len d3
  refine lc_dpL (fun n => keep (ds.getD n w)) (fun n => g (ds.getD n w)) (fun R h => h) hq (by omega) (fun n x H3 R e3 s3 k3 => ?_) (fun n x H3 D R e3 kp hD hacc s3 k3 => ?_) (fun D acc H3 hD s3 e3 d4 => ?_)
  · obtain ⟨d, ed, hx⟩ := dpa_get2 d3 e3
    rw [getD_of ed] at k3
    exact ht x d H3 R (List.mem_of_getElem? ed) ((s1.trans s2).trans s3) (dp_same s3 _ _ hx) k3
  · obtain ⟨d, ed, hx⟩ := dpa_get2 d3 e3
    rw [getD_of ed] at k3 kp
    exact he x d H3 D R (List.mem_of_getElem? ed) kp ((s1.trans s2).trans s3) (dp_same (same_erase s3 hD) _ _ hx) hacc ((s1.trans s2).trans (same_erase s3 hD)) k3
  · refine k D acc H3 (s2.free hD) (s2.trans s3) e3 ?_
    have e0 := range_get ds (fun d => d) w
    rw [List.map_id'] at e0
    have ez : ((List.range vs.length).filter fun n => keep (ds.getD n w)).map (fun n => g (ds.getD n w)) = (ds.filter keep).map g := by
      have e1 : (fun n => keep (ds.getD n w)) = keep ∘ fun n => ds.getD n w := rfl
      have e2 : (fun n => g (ds.getD n w)) = g ∘ fun n => ds.getD n w := rfl
      rw [hl, e1, e2, ← List.map_map, ← List.filter_map, e0]
    rw [ez] at d4
    exact d4
theorem ev_chain0 {ta tb tc : TE} {σ : L2.St} {H : Hp} {f f' : Int → Int → Bool} {n m q : Int} (ha : EvV ta σ H (.int n)) (hb : EvV tb σ H (.int m)) (hc : EvV tc σ H (.int q)) : EvV (tChain (rI0 fun i j => .bl (f i j)) (rI0 fun i j => .bl (f' i j)) ta tb tc) σ H (.bl (f n m && f' m q)) :=
  ev_chain (C := fun _ _ => True) (C' := fun _ _ => True) ha hb hc
/-! ### int(flag), [a, b][int(flag)], an if that stores data -/
def rInt1 : List V → Hp → VK → Prop := fun xs H Q => (∃ i, xs = [.int i] ∧ Q (.int i) H) ∨ ∃ k, xs = [.bl k] ∧ Q (.int (if k then 1 else 0)) H
theorem call_intP {X : Cx} : CallR X (.type "int") rInt1 := call_int1
section
variable {K : PySem.W.Frag} {te ta tb : TE} {tt : TT} {σ : L2.St} {H : Hp} {u : TS} {D : Ends} {i : Nat} {b c : Bool} {d : PyData} {x0 : V} {n m : Int} {ds : List PyData}
theorem ev_intB (h : EvV te σ H (.bl b)) : EvV (tCB rInt1 (tCons te tNil)) σ H (.int (bit b)) := fun H1 Q s1 k => h H1 _ s1 fun H2 s2 => .inr ⟨b, rfl, k H2 s2⟩
theorem ev_pick (h : EvV te σ H (.int (bit b))) : EvV (tOp (rIxL K) (tLst (tCons (tC (.int n)) (tCons (tC (.int m)) tNil))) te) σ H (.int (if b then m else n)) :=
  EvD.v_int (evd_ix (ds := [.int n, .int m]) (EvK.dat (EvO.k (evo_lst (eds_cons evd_int (eds_cons evd_int eds_nil)) (by show 2 ≤ 100000; omega)))) h (by cases b <;> decide) (by cases b <;> rfl))
theorem if_asgD (h : EvB tt σ H b) (ha : b = true → EvD K te σ H d) (hx : σ[i]? = some (some x0)) (k : ∀ y H1, Same H H1 → (b = true → Dp K H1 y d) → (b = false → y = x0) → u D (σ.set i (some y)) H1) : tSeq (tIfS tt (tAsg te (gName i)) tNext) u D σ H :=
  h H _ (Same.refl H) fun H1 s1 => by
    cases b with
    | true => exact iteT (asgLastD ((ha rfl).mono s1) fun y H2 s2 d2 => k y H2 (s1.trans s2) (fun _ => d2) (fun z => nomatch z))
    | false =>
      have e : σ.set i (some x0) = σ := by
        obtain ⟨hi, e⟩ := List.getElem?_eq_some_iff.mp hx
        rw [← e, List.set_getElem_self]
      have := k x0 H1 s1 (fun z => nomatch z) (fun _ => rfl)
      rw [e] at this
      exact iteF this
end
/-! ### == of lists of ints, != of flags -/
theorem eqvL (ns ms : List Int) : PyData.eqv (.list (ns.map PyData.int)) (.list (ms.map PyData.int)) = decide (ns = ms) := by
  rw [PyData.eqv]
  exact PySem.W.ked_eqvAll ns ms
section
variable {K : PySem.W.Frag} {te ta tb : TE} {tt : TT} {tw : TS} {σ : L2.St} {H : Hp} {u : TS} {D : Ends} {j : Nat} {a b : Bool} {ns ms : List Int}
theorem listSh (l : List Int) : SeqAt.shaped (.list (l.map PyData.int)) = true := (show ShN 1 (.list (l.map PyData.int)) from sh_lst sh_ints).ok (by omega)
theorem ev_eqL (ha : EvD K ta σ H (.list (ns.map PyData.int))) (hb : EvD K tb σ H (.list (ms.map PyData.int))) : EvV (tOp (rEqD K) ta tb) σ H (.bl (decide (ns = ms))) := EvV.is (ev_eq ha hb (listSh ns) (listSh ms)) (by rw [eqvL])
theorem ev_neL (ha : EvD K ta σ H (.list (ns.map PyData.int))) (hb : EvD K tb σ H (.list (ms.map PyData.int))) : EvV (tOp (rNeD K) ta tb) σ H (.bl (!decide (ns = ms))) := EvV.is (ev_ne ha hb (listSh ns) (listSh ms)) (by rw [eqvL])
theorem ev_neB (ha : EvV ta σ H (.bl a)) (hb : EvV tb σ H (.bl b)) : EvV (tOp rNe ta tb) σ H (.bl (!decide (a = b))) := fun H1 Q s1 k =>
  ha H1 _ s1 fun H2 s2 => hb H2 _ (s1.trans s2) fun H3 s3 => ⟨rfl, by
    have e : decide (V.bl a = V.bl b) = decide (a = b) := by cases a <;> cases b <;> rfl
    rw [e]
    exact k H3 (s2.trans s3)⟩
theorem ifYes (h : EvB tt σ H true) (k : ∀ H1, Same H H1 → tw { D with nx := u D } σ H1) : tSeq (tIfS tt tw tNext) u D σ H := h H _ (Same.refl H) fun H1 s => iteT (k H1 s)
theorem ifL (h : EvB tt σ H b) (hy : b = true → ∀ H1, Same H H1 → tw D σ H1) (hn : b = false → ∀ H1, Same H H1 → D.nx σ H1) : tIfS tt tw tNext D σ H := h H _ (Same.refl H) fun H1 s => by
  cases b with
  | true => exact iteT (hy rfl H1 s)
  | false => exact iteF (hn rfl H1 s)
/-- a for over a written tuple of ints, whose body may change lists -/
theorem forTI (he : EvD K te σ H (.tuple (ns.map PyData.int))) (k : ∀ p H1, Same H H1 → SqT K H1 p (ns.map V.int) → ∃ Pv : Nat → L2.St → Hp → Prop, Pv 0 σ H1 ∧ (∀ i σ' H', Pv i σ' H' → SqT K H' p (ns.map V.int)) ∧
    (∀ i n σ' H', ns[i]? = some n → Pv i σ' H' → tw { nx := Pv (i + 1), rt := D.rt, bk := u D, ct := Pv (i + 1) } (σ'.set j (some (.int n))) H') ∧ ∀ σ' H', Pv ns.length σ' H' → u D σ' H') : tSeq (tFor (iTup K te) (gName j) tw) u D σ H :=
  he H _ (Same.refl H) fun v H1 s1 dv => by
    obtain ⟨p, rfl, hq⟩ : ∃ p, v = .ref p ∧ SqT K H1 p (ns.map V.int) := by
      cases dv with
      | tup hs ha =>
        rw [dpa_ints_eq ha] at hs
        exact ⟨_, rfl, hs⟩
    obtain ⟨Pv, h0, hl, hs, hd⟩ := k p H1 s1 hq
    refine ⟨p, rfl, ⟨_, hq⟩, for_tup (K := K) (D := { D with nx := u D }) Pv h0 (fun i σ' H' _ q => hl i σ' H' q) (fun i x σ' H' e q => ?_) (fun σ' H' q => hd σ' H' (by rw [List.length_map] at q; exact q))⟩
    obtain ⟨n, en, rfl⟩ := get_int e
    exact hs i n σ' H' en q
end
/-! ### what stays where a list changes -/
theorem sqt_upd {K : PySem.W.Frag} {H : Hp} {p q : Addr} {o : HO} {xs ys : List V} (h : SqT K H p xs) (hq : H q = some (.lst ys)) : SqT K (upd H q o) p xs := by
  rcases h with (h | ⟨z, h⟩) | h
  · exact .inl (.inl (by rw [upd_ne (fun e => by rw [e, hq] at h; cases h)]; exact h))
  · exact .inl (.inr ⟨z, by rw [upd_ne (fun e => by rw [e, hq] at h; cases h)]; exact h⟩)
  · exact .inr h
/-! ### slices of lists, whatever their ends -/
theorem cut_drop2 {xs : List V} {s : Int} (h0 : 0 ≤ s) : cutV xs (some s) none = xs.drop s.toNat := by
  unfold cutV
  obtain ⟨n, rfl⟩ := Int.eq_ofNat_of_zero_le h0
  rw [HT.sIx_none, HT.sIx_nat, Int.toNat_natCast]
  by_cases h : n ≤ xs.length
  · rw [Nat.min_eq_left h]
    exact List.take_of_length_le (by rw [List.length_drop]; exact Nat.le_refl _)
  · rw [Nat.min_eq_right (by omega), List.drop_eq_nil_of_le (by omega), List.drop_eq_nil_of_le (by omega)]
    exact List.take_nil
theorem cut_mid {xs : List V} {s t : Int} (h0 : 0 ≤ s) (h1 : s ≤ t) : cutV xs (some s) (some t) = (xs.take t.toNat).drop s.toNat := by
  unfold cutV
  obtain ⟨n, rfl⟩ := Int.eq_ofNat_of_zero_le h0
  obtain ⟨m, rfl⟩ := Int.eq_ofNat_of_zero_le (show 0 ≤ t by omega)
  rw [HT.sIx_nat, HT.sIx_nat, Int.toNat_natCast, Int.toNat_natCast, ← List.drop_take]
  by_cases h : n ≤ xs.length
  · rw [Nat.min_eq_left h]
    by_cases k : m ≤ xs.length
    · rw [Nat.min_eq_left k]
    · rw [Nat.min_eq_right (by omega), List.take_length, List.take_of_length_le (by omega)]
  · rw [Nat.min_eq_right (by omega), List.drop_eq_nil_of_le (by rw [List.length_take]; omega), List.drop_eq_nil_of_le (by rw [List.length_take]; omega)]
section
variable {K : PySem.W.Frag} {te ta tb : TE} {σ : L2.St} {H : Hp} {ds : List PyData} {n m : Int}
theorem evo_dropL2 (h : EvD K te σ H (.list ds)) (hn : EvV ta σ H (.int n)) (h0 : 0 ≤ n) : EvO K (tSl (rSlL K) te (tPart ta) tNoPart) σ H (ds.drop n.toNat) := fun H1 Q s1 k =>
  h H1 _ s1 fun v H2 s2 d2 => hn H2 _ (s1.trans s2) fun H3 s3 => ⟨n, rfl, by
    cases d2 with
    | lst hs ha => exact ⟨_, _, rfl, s3.seq hs, fun p np => k p _ _ ((s2.trans s3).free np) ((s2.trans s3).trans (same_upd np)) upd_same (by
        rw [cut_drop2 h0]
        exact dpa_drop (dpa_same (s3.trans (same_upd np)) _ _ ha))⟩⟩
theorem evo_sl2 (h : EvD K te σ H (.list ds)) (hn : EvV ta σ H (.int n)) (hm : EvV tb σ H (.int m)) (h0 : 0 ≤ n) (h1 : n ≤ m) : EvO K (tSl (rSlL K) te (tPart ta) (tPart tb)) σ H ((ds.take m.toNat).drop n.toNat) := fun H1 Q s1 k =>
  h H1 _ s1 fun v H2 s2 d2 => hn H2 _ (s1.trans s2) fun H3 s3 => ⟨n, rfl, hm H3 _ ((s1.trans s2).trans s3) fun H4 s4 => ⟨m, rfl, by
    have s24 := (s2.trans s3).trans s4
    cases d2 with
    | lst hs ha => exact ⟨_, _, rfl, (s3.trans s4).seq hs, fun p np => k p _ _ (s24.free np) (s24.trans (same_upd np)) upd_same (by
        rw [cut_mid h0 h1]
        exact dpa_drop (dpa_take (dpa_same ((s3.trans s4).trans (same_upd np)) _ _ ha)))⟩⟩⟩
end
/-! ### promises: a new list of ints, or an error -/
def PSpXO (K : PySem.W.Frag) (n : Nat) (f : List PyData → Except Err (List Int)) : Sp := fun vs H Q E =>
  ∃ ds, DpAll K H vs ds ∧ ds.length = n ∧ (∀ r, f ds = .ok r → ∀ p H', H p = none → Same H H' → H' p = some (.lst (r.map V.int)) → Q (.ref p) H') ∧ (∀ e, f ds = .error e → ∀ H', Same H H' → E (.ref (errC K e)) none H')
section
variable {K : PySem.W.Frag} {tas : TA} {σ : L2.St} {H : Hp} {ds : List PyData} {r : List Int}
theorem evo_XO {n : Nat} {f : List PyData → Except Err (List Int)} (h : EvDs K tas σ H ds) (hl : ds.length = n) (hf : f ds = .ok r) : EvO K (tCall (PSpXO K n f) [] E0 tas) σ H (r.map PyData.int) :=
  evo_call h fun vs H1 Q s1 d1 k => ⟨ds, d1, hl, fun r' hr p H2 np s2 e2 => by
    rw [hf] at hr
    cases hr
    exact k p _ H2 np s2 e2 (dpa_ints _), fun e he => by rw [hf] at he; cases he⟩
theorem len1O {n : Nat} {g : List PyData → Except Err (List Int)} {vs : List V} {Q : VK} {E : XK} (h : PSpXO K n g vs H Q E) : vs.length = n := by
  obtain ⟨ds, hd, hl, _⟩ := h
  rw [dpa_len hd, hl]
end
/-! ### a list at its own place -/
section
variable {K : PySem.W.Frag} {te : TE} {σ : L2.St} {H : Hp} {u : TS} {D : Ends} {i : Nat} {v : V} {p : Addr} {xs : List V}
/-- xs.append(e) -/
theorem appV (hi : σ[i]? = some (some (.ref p))) (hp : H p = some (.lst xs)) (hl : xs.length ≤ 100000) (h : EvV te σ H v) (k : ∀ H1, Same H H1 → u D σ (upd H1 p (.lst (xs ++ [v])))) : tSeq (tDrop (tBM K "list" rAppend (tVar i) (tCons te tNil))) u D σ H :=
  ⟨_, hi, .inl ⟨rfl, _, .inl (.inl hp)⟩, h H _ (Same.refl H) fun H1 s1 => ⟨p, xs, v, rfl, rfl, s1 _ _ hp, Nat.lt_of_le_of_lt hl (by decide), k H1 s1⟩⟩
theorem appVL (hi : σ[i]? = some (some (.ref p))) (hp : H p = some (.lst xs)) (hl : xs.length ≤ 100000) (h : EvV te σ H v) (k : ∀ H1, Same H H1 → D.nx σ (upd H1 p (.lst (xs ++ [v])))) : tDrop (tBM K "list" rAppend (tVar i) (tCons te tNil)) D σ H :=
  ⟨_, hi, .inl ⟨rfl, _, .inl (.inl hp)⟩, h H _ (Same.refl H) fun H1 s1 => ⟨p, xs, v, rfl, rfl, s1 _ _ hp, Nat.lt_of_le_of_lt hl (by decide), k H1 s1⟩⟩
end
theorem retO {K : PySem.W.Frag} {te : TE} {σ : L2.St} {H : Hp} {D : Ends} {ds : List PyData} (h : EvO K te σ H ds) (k : ∀ p vs H1, H p = none → Same H H1 → H1 p = some (.lst vs) → DpAll K H1 vs ds → D.rt (.ref p) H1) : tRet te D σ H := h H _ (Same.refl H) fun p vs H1 np s e d => k p vs H1 np s e d
theorem dp_list {K : PySem.W.Frag} {H : Hp} {p : Addr} {ns : List Int} (h : H p = some (.lst (ns.map V.int))) : Dp K H (.ref p) (.list (ns.map PyData.int)) := .lst (.inl (.inl h)) (dpa_ints ns)
end Pl

namespace Pl
open PySem PySem.Spec PyProof.Rows L2
/-! ### the numbers of the program's figures -/
/-- the least k for which no piece of 2 ^ k is wider -/
def WideK (s : S3) (k : Nat) : Prop := s.t ≤ s.w * 2 ^ k ∧ ∀ j, j < k → s.w * 2 ^ j < s.t
theorem wideK_le {s : S3} {n k : Nat} (h : s.Ok n) (hk : WideK s k) : k ≤ n := by
  rcases Nat.lt_or_ge n k with z | z
  · have := hk.2 n z
    have m := Int.mul_le_mul_of_nonneg_right h.w1 (show (0 : Int) ≤ 2 ^ n by have := pow2_pos n; omega)
    have := h.tn
    omega
  · exact z
theorem wideK_few {s : S3} {k : Nat} (h : s.Good) (hk : WideK s k) : fewK s = if fitsK s k then k else k + 1 := by
  obtain ⟨a, b⟩ := fewK_ok h
  have ge : ∀ j, fitsK s j = true → k ≤ j := fun j hj => by
    rcases Nat.lt_or_ge j k with z | z
    · have := hk.2 j z
      have := wide_fits h hj
      omega
    · exact z
  cases e : fitsK s k with
  | true =>
    rw [if_pos rfl]
    exact Nat.le_antisymm (b k e) (ge _ a)
  | false =>
    rw [if_neg Bool.false_ne_true]
    have f : fitsK s (k + 1) = true := fits_wide h (by rw [Int.pow_succ, ← Int.mul_assoc]; have := hk.1; omega)
    have l1 := b _ f
    have l2 := ge _ a
    have ne : fewK s ≠ k := fun z => by
      rw [z, e] at a
      cases a
    omega
/-- the piece that is tried lies in the numbers from 0 to 1 -/
theorem wideK_room {s : S3} {k : Nat} (h : s.Good) (hk : s.t ≤ s.w * 2 ^ k) : firstK s k + 1 ≤ 2 ^ k := by
  have t0 := h.t0
  have p := pow2_pos k
  have m := Int.mul_le_mul_of_nonneg_right h.lw (show (0 : Int) ≤ 2 ^ k by omega)
  rw [Int.add_mul] at m
  have : firstK s k ≤ 2 ^ k - 1 := firstK_le h (by
    rw [Int.sub_mul, Int.mul_comm (2 ^ k)]
    omega)
  omega
theorem fits_iff {s : S3} {k : Nat} (h : s.Good) : withinB ⟨firstK s k, 1, 2 ^ k⟩ s = fitsK s k := by
  rw [Bool.eq_iff_iff]
  constructor
  · intro z
    exact decide_eq_true (p := (firstK s k + 1) * s.t ≤ (s.l + s.w) * 2 ^ k) (within_iff.mp z).2
  · intro z
    exact within_iff.mpr ⟨firstK_ge h k, of_decide_eq_true (p := (firstK s k + 1) * s.t ≤ (s.l + s.w) * 2 ^ k) z⟩
theorem bitsOf_map : ∀ (m : Nat) (x : Int), bitsOf m x = (List.range m).map fun (i : Nat) => x / 2 ^ (m - 1 - i) % 2
  | 0, _ => rfl
  | m + 1, x => by
    show bitsOf m (x / 2) ++ [x % 2] = _
    rw [List.range_succ, List.map_append, bitsOf_map m]
    congr 1
    · refine List.map_congr_left fun i hi => ?_
      have hi := List.mem_range.mp hi
      have e : m + 1 - 1 - i = (m - 1 - i) + 1 := by omega
      rw [e, Int.pow_succ, Int.mul_comm (2 ^ (m - 1 - i)) 2, Int.ediv_ediv_of_nonneg (by decide)]
    · show [x % 2] = [x / 2 ^ (m + 1 - 1 - m) % 2]
      rw [show m + 1 - 1 - m = 0 by omega]
      show [x % 2] = [x / 1 % 2]
      rw [Int.ediv_one]
theorem one_piece {x : Int} {k : Nat} (h0 : 0 ≤ x) (h1 : x + 1 ≤ 2 ^ k) : (⟨x, 1, 2 ^ k⟩ : S3).Ok (k + 1) := by
  refine ⟨h0, Int.le_refl 1, h1, ?_⟩
  show (2 : Int) ^ k < 2 ^ (k + 1)
  rw [Int.pow_succ]
  have := pow2_pos k
  omega
theorem figsIn_zero {s : S3} (h : s.Good) : 0 ≤ firstK s (fewK s) := firstK_pos h _
end Pl

namespace Pl
open PySem PySem.Spec PyProof.Rows L2
theorem Text.signs {n : Nat} {ss : List Int} (h : Text n ss) : Signs n ss := fun x hx => by have := h.2 x hx; omega
theorem whole_good : whole3.Good := whole_ok.good
theorem textS_good {cs : List Int} {g : Int} {ss : List Int} (p : Plan cs g) (h : Text cs.length ss) : (textS cs g ss).Good := (textS_ok p h).good
theorem take_of_begins {α : Type} {a b r : List α} (h : a = b ++ r) : a.take b.length = b := by rw [h, List.take_left']; rfl
theorem begins_of_take {α : Type} {a b : List α} (h : a.take b.length = b) : ∃ r, a = b ++ r := ⟨a.drop b.length, by
  have e := List.take_append_drop b.length a
  rw [h] at e
  exact e.symm⟩
section
variable {cs : List Int} {g : Int} {A B : List Int}
theorem unlike_not (pl : Plan cs g) (ta : Text cs.length A) (tb : Text cs.length B) (hl : A.length = B.length) (hne : A ≠ B) : (figsIn (textS cs g A)).take (figsIn (textS cs g B)).length ≠ figsIn (textS cs g B) := fun z => by
  obtain ⟨r, e⟩ := begins_of_take z
  have br : Bits r := fun x hx => figsIn_bits (textS cs g A) x (by rw [e]; exact List.mem_append_right _ hx)
  have wa := figsIn_within (textS_good pl ta)
  rw [e] at wa
  exact figs_unlike whole_good pl tb.signs ta.signs hl.symm hne.symm (figsIn_bits _) br (figsIn_within (textS_good pl tb)) wa
theorem unlike_lt (pl : Plan cs g) (ta : Text cs.length A) (tb : Text cs.length B) (hl : A.length = B.length) (hne : A ≠ B) :
    PySem.W.dataLt (.list ((figsIn (textS cs g A)).map PyData.int)) (.list ((figsIn (textS cs g B)).map PyData.int)) = PySem.W.dataLt (.list (A.map PyData.int)) (.list (B.map PyData.int)) := by
  have wa := figsIn_within (textS_good pl ta)
  have wb := figsIn_within (textS_good pl tb)
  have ba := figsIn_bits (textS cs g A)
  have bb := figsIn_bits (textS cs g B)
  rcases part3 A B with ⟨r, e⟩ | ⟨r, e⟩ | ⟨p, x, y, r, q, e1, e2, hxy⟩
  · have : r = [] := List.eq_nil_of_length_eq_zero (by rw [e, List.length_append] at hl; omega)
    subst this
    exact absurd (by rw [e, List.append_nil]) hne
  · have : r = [] := List.eq_nil_of_length_eq_zero (by rw [e, List.length_append] at hl; omega)
    subst this
    exact absurd (by rw [e, List.append_nil]) hne
  · generalize figsIn (textS cs g A) = fa at wa ba
    generalize figsIn (textS cs g B) = fb at wb bb
    subst e1 e2
    rw [ltList_part hxy]
    rcases Int.lt_or_gt_of_ne hxy with z | z
    · obtain ⟨p', r', q', rfl, rfl⟩ := figs_order whole_good pl ta.signs tb.signs z ba bb wa wb
      rw [ltList_part (by decide), decide_eq_true z]
      rfl
    · obtain ⟨p', r', q', rfl, rfl⟩ := figs_order whole_good pl tb.signs ta.signs z bb ba wb wa
      rw [ltList_part (by decide), decide_eq_false (show ¬ x < y by omega)]
      rfl
theorem text_within (pl : Plan cs g) (ta : Text cs.length A) (k : Nat) : withinB (textS cs g A) (textS cs g (A.take k)) = true := by
  have e := List.take_append_drop k A
  have h1 := (ta.take k)
  obtain ⟨pa, la⟩ := after_ok pl h1.signs
  have hs : Signs (after cs g (A.take k)).length (A.drop k) := by
    rw [la]
    exact fun x hx => ta.signs x (List.mem_of_mem_drop hx)
  have w := str_within (textS_good pl h1) pa hs
  have e2 : strOf (textS cs g (A.take k)) (after cs g (A.take k)) g (A.drop k) = textS cs g A := by
    unfold textS
    rw [← str_app, e]
  rw [e2] at w
  exact w
theorem sure_first (pl : Plan cs g) (ta : Text cs.length A) (k : Nat) : (figsIn (textS cs g A)).take (sureOf (textS cs g (A.take k))).length = sureOf (textS cs g (A.take k)) := by
  obtain ⟨r, e⟩ := sure_begins (textS_good pl (ta.take k)) (textS_good pl ta) (text_within pl ta k) (figsIn_bits _) (figsIn_within (textS_good pl ta))
  exact take_of_begins e
end
theorem ifNoC {tt : TT} {w u : TS} {D : Ends} {σ : L2.St} {H : Hp} (h : EvB tt σ H false) (k : ∀ H1, Same H H1 → u D σ H1) : Evl.tCut (tIfS tt w tNext) u D σ H :=
  cut_if (fun σ' H' => σ' = σ ∧ Same H H') h (fun z => nomatch z) (fun _ H1 s => ⟨rfl, s⟩) fun σ' H' ⟨e, s⟩ => by
    subst e
    exact k H' s
end Pl

namespace Pl
open PySem PySem.Spec PyProof.Rows L2
/-! ### methods and makings that may raise -/
abbrev FnM (K : PySem.W.Frag) (x q : Str) (st : Stmt) (f : Addr) (fd : FuncData) : Prop := FunD K x q (defArgs st) (defBody st) (defScope st) [] [] f fd
structure MCal (P : Program) (w : World) (K : PySem.W.Frag) (mg : Str → Option Value) (base : Heap) (CX : CXT) (C : Addr) (k : Nat) (m : Str) (ps : List Str) (sp : Sp) : Prop where
  ex : ∃ (f : Addr) (fd : FuncData), FnOk P w K mg base CX k f fd ps sp ∧ Meth K C m f ∧ Binds K fd ps []
structure ICal (P : Program) (w : World) (K : PySem.W.Frag) (mg : Str → Option Value) (base : Heap) (CX : CXT) (C : Addr) (k : Nat) (ps : List Str) (sp : Sp) : Prop where
  ex : ∃ (f : Addr) (fd : FuncData), FnOk P w K mg base CX k f fd ps sp ∧ Mk K C f ∧ Binds K fd ps []
/-- an own class: plain, none of these names in it -/
structure ClsT (K : PySem.W.Frag) (C : Addr) (fs : List Str) : Prop where
  cl : Cls K C
  na : ∀ f ∈ fs, NoAttr K C f
def tMX (C : Addr) (m : Str) (sp : Sp) (E : L2.St → XK) (ta : TE) (t : TA) : TE := fun σ H Q => ta σ H fun x H1 =>
  ∃ a dx fs, x = .ref a ∧ H1 a = some (.ins C dx fs) ∧ fs.lookup m = none ∧ t σ H1 fun vs H2 => sp (x :: vs) H2 Q (E σ)
def tMkX (C : Addr) (sp : Sp) (E : L2.St → XK) (t : TA) : TE := fun σ H Q => t σ H fun vs H1 =>
  ∀ x dx, H1 x = none → H1 dx = none → dx ≠ x → sp (.ref x :: vs) (upd (upd H1 dx (.own x)) x (.ins C dx [])) (fun v H2 => v = .non ∧ Q (.ref x) H2) (E σ)
theorem pass0At {X : Cx} (σ : L2.St) : PassesAt CX0 X σ E0 := fun _ _ _ _ _ _ h => h.elim
theorem passNAt {X : Cx} (σ : L2.St) : PassesAt (L2N.CX X.prog X.w) X σ E0 := fun _ _ _ _ _ _ h => by
  obtain ⟨_, _, _, _, _, _, _, _, _, _, _, _, z⟩ := h
  exact z.elim
section
variable {X : Cx} {CX : CXT} {k : Nat} {C : Addr} {m x : Str} {ps : List Str} {sp : Sp} {E : L2.St → XK} {e o : Expr} {es : List Expr} {ta : TE} {t : TA} {p pos apos : Pos}
theorem pe_mX {pl : Sem Bool} (cl : Cls X.K C) (M : MCal X.prog X.w X.K X.mg X.base CX C k m ps sp) (hr : Room k X.A) (hx : ∀ σ, PassesAt CX X σ (E σ)) (he : PE X o ta) (ha : PA X (e :: es) t)
    (hst : starEach (e :: es) X.env = (false, eval e X.env) :: starEach es X.env := by rfl) (hpl : (backTo pos (starEach es X.env)).any (·.1) = false := by rfl)
    (ht : eval (.Call (.Attribute o m apos) (e :: es) [] pos) X.env = (do let ov ← eval o X.env; standAt apos.atName; let (f, first) ← holding [ov] (getMethod ov m pl); callWith pos f first (backTo pos (starEach (e :: es) X.env)) (backToKw pos (keywordEach [] X.env))) := by rfl) :
    PE X (.Call (.Attribute o m apos) (e :: es) [] pos) (tMX C m sp E ta t) := by
  obtain ⟨f, fd, F, hm, hb⟩ := M.ex
  refine ⟨fun pins s σ H Q I h => PySem.W.methodCall_KW (pl := pl) (thn (he.run pins s σ H _ I h) fun u s1 ⟨x, H1, I1, rx, a, dx, fs, ex, ea, l, q⟩ => ?_) ht⟩
  subst ex
  cases (show u = Value.ref a from rx)
  refine getmeth_ok I1 ea cl hm l (PySem.W.callWith_K (first := [.ref a]) (h₀ := X.base) I.ok.mod.kin hm.kp (thn (ha.run pos pins s1 σ H1 _ I1 q) fun us s2 ⟨vs, H2, I2, r, q2⟩ => ⟨I2.kIn, ?_⟩) hst hpl)
  exact run_fnS (us := .ref a :: us) (vs := .ref a :: vs) F hr hb (hx σ) I2 (.cons rfl r) q2
theorem pe_mX0 {pl : Sem Bool} (cl : Cls X.K C) (M : MCal X.prog X.w X.K X.mg X.base CX C k m ps sp) (hr : Room k X.A) (hx : ∀ σ, PassesAt CX X σ (E σ)) (he : PE X o ta)
    (ht : eval (.Call (.Attribute o m apos) [] [] pos) X.env = (do let ov ← eval o X.env; standAt apos.atName; let (f, first) ← holding [ov] (getMethod ov m pl); callWith pos f first (backTo pos (starEach [] X.env)) (backToKw pos (keywordEach [] X.env))) := by rfl) :
    PE X (.Call (.Attribute o m apos) [] [] pos) (tMX C m sp E ta tNil) := by
  obtain ⟨f, fd, F, hm, hb⟩ := M.ex
  refine ⟨fun pins s σ H Q I h => PySem.W.methodCall_KW (pl := pl) (thn (he.run pins s σ H _ I h) fun u s1 ⟨x, H1, I1, rx, a, dx, fs, ex, ea, l, q⟩ => ?_) ht⟩
  subst ex
  cases (show u = Value.ref a from rx)
  exact getmeth_ok I1 ea cl hm l (PySem.W.callWith_K0 (first := [.ref a]) I1.kIn hm.kp (run_fnS (us := [.ref a]) (vs := [.ref a]) F hr hb (hx σ) I1 (.cons rfl .nil) q))
theorem run_mkX {f : Addr} {fd : FuncData} {pins : List (Addr × Obj)} {σ : L2.St} {H : Hp} {s : Shared} {Q : VK} {us : List Value} {vs : List V} (M : Mk X.K C f) (F : FnOk X.prog X.w X.K X.mg X.base CX k f fd ps sp) (hr : Room (k + 1) X.A) (hb : Binds X.K fd ps [])
    (hx : PassesAt CX X σ (E σ)) (I : Inv X pins σ H s) (r : Vals vs us)
    (h : ∀ x dx, H x = none → H dx = none → dx ≠ x → sp (.ref x :: vs) (upd (upd H dx (.own x)) x (.ins C dx [])) (fun v H2 => v = .non ∧ Q (.ref x) H2) (E σ)) : wpAny (model X.prog X.w) X.A (call (.ref C) us) (EP X pins σ Q) X.xe s := by
  have nx := I.hok.fresh (Nat.le_succ s.heap.objs.size)
  have nd := I.hok.fresh (Nat.le_refl s.heap.objs.size)
  have hq := h (s.heap.objs.size + 1) s.heap.objs.size nx nd (Nat.ne_of_lt (Nat.lt_succ_self _))
  have J := Inv.made (C := C) I
  have rv : Vals (V.ref (s.heap.objs.size + 1) :: vs) (Value.ref (s.heap.objs.size + 1) :: us) := .cons rfl r
  have hl : (Value.ref (s.heap.objs.size + 1) :: us).length = ps.length := by rw [← rv.length]; exact F.len _ _ _ _ hq
  have bd := hb _ (Value.ref (s.heap.objs.size + 1) :: us) J.kIn (by rw [List.append_nil]; exact hl)
  rw [List.append_nil] at bd
  refine wpAny_call (make_map (f := f) I.kIn M.makes M.init (beq_iff_eq.mp M.fn) (codeAny_mono (F.run _ X.stack _ _ ⟨Value.ref (s.heap.objs.size + 1) :: us, []⟩ (Value.ref (s.heap.objs.size + 1) :: us) _ _ (E σ) (hr.make C us []) (J.env0.make C us []) bd rv hq) fun z s' hz => ?_))
  cases z with
  | error e => exact hx pins _ _ e s' J hz
  | ok fl =>
    cases fl with
    | ret u =>
      obtain ⟨v, H', I3, r3, ev, q3⟩ := J.after hz
      subst ev
      exact ⟨r3, V.ref (s.heap.objs.size + 1), H', I3, rfl, q3⟩
    | next => exact hz.elim
    | brk => exact hz.elim
    | cont => exact hz.elim
theorem pe_mkX (M : ICal X.prog X.w X.K X.mg X.base CX C k ps sp) (hr : Room (k + 1) X.A) (hm : X.mg x = some (.ref C)) (hx : ∀ σ, PassesAt CX X σ (E σ)) (ha : PA X (e :: es) t) (hg : Gl X x := by rfl)
    (hdb : (x == ("__debug__" : Str)) = false := by decide) (he : starEach (e :: es) X.env = (false, eval e X.env) :: starEach es X.env := by rfl) (hpl : (backTo pos (starEach es X.env)).any (·.1) = false := by rfl) :
    PE X (.Call (.Name x p) (e :: es) [] pos) (tMkX C sp E t) := by
  obtain ⟨f, fd, F, hk, hb⟩ := M.ex
  refine ⟨fun pins s σ H Q I h => ?_⟩
  refine wpAny_Call_Name_kw (ld_glob I hg hm ?_ hdb)
  exact PySem.W.callWith_K (h₀ := X.base) I.ok.mod.kin hk.kp (thn (ha.run pos pins s σ H _ I h) fun us s1 ⟨vs, H1, I1, r, q⟩ => ⟨I1.kIn, run_mkX hk F hr hb (hx σ) I1 r q⟩) he hpl
end
/-! ### a field as a target -/
def gFld (K : PySem.W.Frag) (to : TE) (f : Str) : TG := fun v σ H Q => to σ H fun x H2 => ∃ a C dx fs, x = .ref a ∧ H2 a = some (.ins C dx fs) ∧ Cls K C ∧ NoAttr K C f ∧ fs.length < 1000 ∧ Q σ (upd H2 a (.ins C dx (putF f v fs)))
theorem pg_fld {X : Cx} {K : PySem.W.Frag} {o : Expr} {to : TE} {f : Str} {pos : Pos} (hK : X.K = K) (ho : PE X o to)
    (ha : ∀ v, assign (.Attribute o f pos) X.env v = (do let ov ← holding [v] (eval o X.env); standAt pos.atName; holding [v, ov] (setAttr ov f v); release [v, ov] []) := by intro _; rfl) : PG X (.Attribute o f pos) (gFld K to f) := by
  subst hK
  refine ⟨fun pins s σ H v u Q I r h => ?_⟩
  rw [ha]
  refine wpAny_bind (wpAny_holding (thn (ho.run pins s σ H _ I h) fun ov s1 ⟨x, H1, I1, rx, a, C, dx, fs, ex, ea, c, n, l, q⟩ => ?_))
  subst ex
  cases (show ov = Value.ref a from rx)
  refine wpAny_bind (wpAny_standAt (wpAny_bind (wpAny_holding (setattr_ok I1 ea c n l r fun s3 I3 => ?_))))
  exact wpAny_release ⟨σ, _, I3, q⟩
/-! ### what stays -/
/-- all but M stays -/
def Keep (M : List Addr) (H H' : Hp) : Prop := ∀ b o, b ∉ M → H b = some o → H' b = some o
theorem Keep.refl (M : List Addr) (H : Hp) : Keep M H H := fun _ _ _ e => e
theorem Keep.trans {M : List Addr} {A B C : Hp} (h : Keep M A B) (k : Keep M B C) : Keep M A C := fun b o n e => k b o n (h b o n e)
theorem Same.keep {M : List Addr} {A B : Hp} (h : Same A B) : Keep M A B := fun b o _ e => h b o e
theorem keep_upd {M : List Addr} {H : Hp} {p : Addr} {o : HO} (h : p ∈ M) : Keep M H (upd H p o) := fun b x n e => by
  rw [upd_ne (fun z => n (by rw [z]; exact h))]
  exact e
theorem Keep.mono {M N : List Addr} {A B : Hp} (h : Keep M A B) (hs : ∀ x ∈ M, x ∈ N) : Keep N A B := fun b o n e => h b o (fun z => n (hs b z)) e
theorem Keep.same {M : List Addr} {A B : Hp} (h : Keep M A B) (hM : ∀ x ∈ M, A x = none) : Same A B := fun b o e => h b o (fun z => by rw [hM b z] at e; cases e) e
/-- of what H0 knew, none of M -/
theorem Keep.over {M : List Addr} {A B H0 : Hp} (h : Keep M A B) (s : Same H0 A) (hM : ∀ x ∈ M, H0 x = none) : Same H0 B := fun b o e => h b o (fun z => by rw [hM b z] at e; cases e) (s b o e)
/-- no tuple stands at the places M -/
def NoTup (M : List Addr) (H : Hp) : Prop := ∀ a ∈ M, ∀ o, H a = some o → (∀ xs, o ≠ .tup xs) ∧ ∀ z xs, o ≠ .frz z (.tup xs)
theorem sqt_keep {K : PySem.W.Frag} {M : List Addr} {A B : Hp} {a : Addr} {xs : List V} (h : Keep M A B) (n : NoTup M A) (hs : SqT K A a xs) : SqT K B a xs := by
  rcases hs with (e | ⟨z, e⟩) | e
  · exact .inl (.inl (h a _ (fun q => (n a q _ e).1 xs rfl) e))
  · exact .inl (.inr ⟨z, h a _ (fun q => (n a q _ e).2 z xs rfl) e⟩)
  · exact .inr e
/-- data of tuples and numbers alone -/
inductive TupO : PyData → Prop
  | int (i : Int) : TupO (.int i)
  | tup {ds : List PyData} (h : ∀ d ∈ ds, TupO d) : TupO (.tuple ds)
theorem dpa_imp {K : PySem.W.Frag} {A B : Hp} : ∀ {vs : List V} {ds : List PyData}, (∀ d ∈ ds, ∀ v, Dp K A v d → Dp K B v d) → DpAll K A vs ds → DpAll K B vs ds
  | _, [], _, h => by cases h; exact .nil
  | _, d :: ds, k, h => by
    cases h with
    | cons a b => exact .cons (k d List.mem_cons_self _ a) (dpa_imp (fun e he => k e (List.mem_cons_of_mem _ he)) b)
theorem dp_keep {K : PySem.W.Frag} {M : List Addr} {A B : Hp} (h : Keep M A B) (n : NoTup M A) {d : PyData} (t : TupO d) : ∀ {v : V}, Dp K A v d → Dp K B v d := by
  induction t with
  | int i => exact fun {_} hd => by cases hd; exact .int i
  | tup _ ih =>
    intro v hd
    cases hd with
    | tup hs ha => exact .tup (sqt_keep h n hs) (dpa_imp (fun d hm v => ih d hm) ha)
theorem tupO_ints {ns : List Int} : ∀ d ∈ ns.map PyData.int, TupO d := fun d hd => by
  obtain ⟨i, _, rfl⟩ := List.mem_map.mp hd
  exact .int i
theorem tupO_plan (cs : List Int) (g : Int) : TupO (planD cs g) := .tup fun d hd => by
  simp only [List.mem_cons, List.not_mem_nil, or_false] at hd
  rcases hd with rfl | rfl
  · exact .tup tupO_ints
  · exact .int g
theorem tupO_s3 (s : S3) : TupO s.d := .tup fun d hd => by
  simp only [List.mem_cons, List.not_mem_nil, or_false] at hd
  rcases hd with rfl | rfl | rfl <;> exact .int _
theorem notup_of {M : List Addr} {H : Hp} (h : ∀ a ∈ M, ∃ o, H a = some o ∧ (∀ xs, o ≠ .tup xs) ∧ ∀ z xs, o ≠ .frz z (.tup xs)) : NoTup M H := fun a ha o e => by
  obtain ⟨o', e', n⟩ := h a ha
  rw [e] at e'
  cases e'
  exact n
theorem nt_lst (xs : List V) : (∀ ys, HO.lst xs ≠ .tup ys) ∧ ∀ z ys, HO.lst xs ≠ .frz z (.tup ys) := ⟨(fun _ z => nomatch z), (fun _ _ z => nomatch z)⟩
theorem nt_ins (C dx : Addr) (fs : List (Str × V)) : (∀ ys, HO.ins C dx fs ≠ .tup ys) ∧ ∀ z ys, HO.ins C dx fs ≠ .frz z (.tup ys) := ⟨(fun _ z => nomatch z), (fun _ _ z => nomatch z)⟩
/-! ### fields -/
section
variable {K : PySem.W.Frag} {te ta : TE} {tt : TT} {σ : L2.St} {H : Hp} {u : TS} {D : Ends} {i : Nat} {p C dx : Addr} {fs : List (Str × V)} {f : Str} {v : V} {d d1 d2 : PyData} {names : List Str}
theorem ev_fld (T : ClsT K C names) (hf : f ∈ names) (hi : σ[i]? = some (some (.ref p))) (hp : H p = some (.ins C dx fs)) (hl : fs.lookup f = some v) : EvV (tFld K (tVar i) f) σ H v := fun H1 Q s1 k =>
  ⟨_, hi, p, C, dx, fs, v, rfl, s1 _ _ hp, T.cl, T.na f hf, hl, k H1 (Same.refl _)⟩
theorem setFld (T : ClsT K C names) (hf : f ∈ names) (hi : σ[i]? = some (some (.ref p))) (hp : H p = some (.ins C dx fs)) (hl : fs.length < 1000) (h : EvV te σ H v) (k : ∀ H1, Same H H1 → u D σ (upd H1 p (.ins C dx (putF f v fs)))) : tSeq (sFld K (tVar i) te f) u D σ H :=
  h H _ (Same.refl H) fun H1 s1 => ⟨_, hi, p, C, dx, fs, rfl, s1 _ _ hp, T.cl, T.na f hf, hl, k H1 s1⟩
theorem setFldD (T : ClsT K C names) (hf : f ∈ names) (hi : σ[i]? = some (some (.ref p))) (hp : H p = some (.ins C dx fs)) (hl : fs.length < 1000) (h : EvD K te σ H d) (k : ∀ v H1, Same H H1 → Dp K H1 v d → u D σ (upd H1 p (.ins C dx (putF f v fs)))) : tSeq (sFld K (tVar i) te f) u D σ H :=
  h H _ (Same.refl H) fun v H1 s1 d1 => ⟨_, hi, p, C, dx, fs, rfl, s1 _ _ hp, T.cl, T.na f hf, hl, k v H1 s1 d1⟩
theorem setFldO {ds : List PyData} (T : ClsT K C names) (hf : f ∈ names) (hi : σ[i]? = some (some (.ref p))) (hp : H p = some (.ins C dx fs)) (hl : fs.length < 1000) (h : EvO K te σ H ds) (k : ∀ q vs H1, H q = none → Same H H1 → H1 q = some (.lst vs) → DpAll K H1 vs ds → u D σ (upd H1 p (.ins C dx (putF f (.ref q) fs)))) : tSeq (sFld K (tVar i) te f) u D σ H :=
  h H _ (Same.refl H) fun q vs H1 nq s1 e1 d1 => ⟨_, hi, p, C, dx, fs, rfl, s1 _ _ hp, T.cl, T.na f hf, hl, k q vs H1 nq s1 e1 d1⟩
theorem setFldL (T : ClsT K C names) (hf : f ∈ names) (hi : σ[i]? = some (some (.ref p))) (hp : H p = some (.ins C dx fs)) (hl : fs.length < 1000) (h : EvV te σ H v) (k : ∀ H1, Same H H1 → D.nx σ (upd H1 p (.ins C dx (putF f v fs)))) : sFld K (tVar i) te f D σ H :=
  h H _ (Same.refl H) fun H1 s1 => ⟨_, hi, p, C, dx, fs, rfl, s1 _ _ hp, T.cl, T.na f hf, hl, k H1 s1⟩
theorem augFld {n j : Int} (T : ClsT K C names) (hf : f ∈ names) (hi : σ[i]? = some (some (.ref p))) (hp : H p = some (.ins C dx fs)) (hl : fs.length < 1000) (hv : fs.lookup f = some (.int n)) (h : EvV te σ H (.int j)) (k : ∀ H1, Same H H1 → u D σ (upd H1 p (.ins C dx (putF f (.int (n + j)) fs)))) : tSeq (sFldAug K (tVar i) te rAdd f) u D σ H :=
  ⟨_, hi, p, C, dx, fs, _, rfl, hp, T.cl, T.na f hf, hv, h H _ (Same.refl H) fun H1 s1 => ⟨n, j, rfl, rfl, dx, fs, s1 _ _ hp, hl, k H1 s1⟩⟩
/-- two fields at once -/
theorem unp2F {g : Str} (T : ClsT K C names) (hf : f ∈ names) (hg : g ∈ names) (hi : σ[i]? = some (some (.ref p))) (hp : H p = some (.ins C dx fs)) (hl : ∀ v, fs.length < 1000 ∧ (putF f v fs).length < 1000) (h : EvD K te σ H (.tuple [d1, d2]))
    (k : ∀ v1 v2 H1, Same H H1 → Dp K H1 v1 d1 → Dp K H1 v2 d2 → u D σ (upd (upd H1 p (.ins C dx (putF f v1 fs))) p (.ins C dx (putF g v2 (putF f v1 fs))))) : tSeq (tAsg te (gTup K 2 (gCons (gFld K (tVar i) f) (gCons (gFld K (tVar i) g) gNil)))) u D σ H :=
  h H _ (Same.refl H) fun v H1 s1 dv => by
    cases dv with
    | tup hs ha =>
      obtain ⟨v1, v2, rfl, a1, a2⟩ := dpaN2 ha
      exact ⟨_, _, rfl, hs, rfl, _, _, rfl, _, hi, p, C, dx, fs, rfl, s1 _ _ hp, T.cl, T.na f hf, (hl v1).1, _, _, rfl, _, hi, p, C, dx, _, rfl, upd_same, T.cl, T.na g hg, (hl v1).2, rfl, k v1 v2 H1 s1 a1 a2⟩
/-- x = f(..) that may raise: both ways -/
theorem asgXO {n j : Nat} {tas : TA} {ds : List PyData} {ff : List PyData → Except Err (List Int)} {E : L2.St → XK} (h : EvDs K tas σ H ds) (hl : ds.length = n) (hok : ∀ r q H1, ff ds = .ok r → H q = none → Same H H1 → H1 q = some (.lst (r.map V.int)) → u D (σ.set j (some (.ref q))) H1)
    (her : ∀ e H1, ff ds = .error e → Same H H1 → E σ (.ref (errC K e)) none H1) : tSeq (tAsg (tCallS (PSpXO K n ff) E tas) (gName j)) u D σ H :=
  h H _ (Same.refl H) fun vs H2 s2 d2 => ⟨ds, d2, hl, fun r hr q H3 nq s3 e3 => hok r q H3 hr (s2.free nq) (s2.trans s3) e3, fun e he H3 s3 => her e H3 he (s2.trans s3)⟩
/-- xs.append(data), the last statement -/
theorem appDL {xs : List V} (hi : σ[i]? = some (some (.ref p))) (hp : H p = some (.lst xs)) (hl : xs.length ≤ 100000) (h : EvD K te σ H d) (k : ∀ v H1, Same H H1 → Dp K H1 v d → D.nx σ (upd H1 p (.lst (xs ++ [v])))) : tDrop (tBM K "list" rAppend (tVar i) (tCons te tNil)) D σ H :=
  ⟨_, hi, .inl ⟨rfl, _, .inl (.inl hp)⟩, h H _ (Same.refl H) fun v H1 s1 d1 => ⟨p, xs, v, rfl, rfl, s1 _ _ hp, Nat.lt_of_le_of_lt hl (by decide), k v H1 s1 d1⟩⟩
theorem ev_ixLast {ns : List Int} {x : Int} (hi : σ[i]? = some (some (.ref p))) (hp : H p = some (.lst ((ns ++ [x]).map V.int))) : EvV (tOp (rIxL K) (tVar i) (tUn (rU fun i => V.int (-i)) (tC (.int 1)))) σ H (.int x) := fun H1 Q s1 k =>
  ⟨_, hi, 1, rfl, p, (ns ++ [x]).map V.int, -1, .int x, rfl, rfl, .inl (.inl (s1 _ _ hp)), by rw [List.map_append]; exact atI_last _ _, k H1 (Same.refl _)⟩
/-- o.f.append(e) -/
theorem appF {q : Addr} {xs : List V} (T : ClsT K C names) (hf : f ∈ names) (hi : σ[i]? = some (some (.ref p))) (hp : H p = some (.ins C dx fs)) (hl : fs.lookup f = some (.ref q)) (hq : H q = some (.lst xs)) (hz : xs.length ≤ 100000) (h : EvV te σ H v) (k : ∀ H1, Same H H1 → u D σ (upd H1 q (.lst (xs ++ [v])))) :
    tSeq (tDrop (tBM K "list" rAppend (tFld K (tVar i) f) (tCons te tNil))) u D σ H :=
  ⟨_, hi, p, C, dx, fs, _, rfl, hp, T.cl, T.na f hf, hl, .inl ⟨rfl, _, .inl (.inl hq)⟩, h H _ (Same.refl H) fun H1 s1 => ⟨q, xs, v, rfl, rfl, s1 _ _ hq, Nat.lt_of_le_of_lt hz (by decide), k H1 s1⟩⟩
theorem ifB {b : Bool} {tw : TS} (h : EvB tt σ H b) (hy : b = true → ∀ H1, Same H H1 → tw { D with nx := u D } σ H1) (hn : b = false → ∀ H1, Same H H1 → u D σ H1) : tSeq (tIfS tt tw tNext) u D σ H := h H _ (Same.refl H) fun H1 s => by
  cases b with
  | true => exact iteT (hy rfl H1 s)
  | false => exact iteF (hn rfl H1 s)
theorem lp {n : Nat} (h : fs.length ≤ n) : (putF f v fs).length ≤ n + 1 := by
  have := length_putF f v fs
  omega
end
/-! ### data, where an object stands that is none -/
theorem sql_del {K : PySem.W.Frag} {H : Hp} {p a : Addr} {xs : List V} {C dx : Addr} {fs : List (Str × V)} (hp : H p = some (.ins C dx fs)) (h : SqL K H a xs) : SqL K (erase p H) a xs := by
  rcases h with (h | ⟨z, h⟩) | h
  · exact .inl (.inl (by rw [erase_at (fun e => by rw [e, hp] at h; cases h)]; exact h))
  · exact .inl (.inr ⟨z, by rw [erase_at (fun e => by rw [e, hp] at h; cases h)]; exact h⟩)
  · exact .inr h
theorem sqt_del {K : PySem.W.Frag} {H : Hp} {p a : Addr} {xs : List V} {C dx : Addr} {fs : List (Str × V)} (hp : H p = some (.ins C dx fs)) (h : SqT K H a xs) : SqT K (erase p H) a xs := by
  rcases h with (h | ⟨z, h⟩) | h
  · exact .inl (.inl (by rw [erase_at (fun e => by rw [e, hp] at h; cases h)]; exact h))
  · exact .inl (.inr ⟨z, by rw [erase_at (fun e => by rw [e, hp] at h; cases h)]; exact h⟩)
  · exact .inr h
mutual
theorem dp_del {K : PySem.W.Frag} {H : Hp} {p : Addr} {C dx : Addr} {fs : List (Str × V)} (hp : H p = some (.ins C dx fs)) : ∀ (d : PyData) (v : V), Dp K H v d → Dp K (erase p H) v d
  | .none, _, h => by cases h; exact .non
  | .bool b, _, h => by cases h; exact .bl b
  | .int i, _, h => by cases h; exact .int i
  | .str x, _, h => by cases h; exact .str x
  | .list ds, _, h => by
    cases h with
    | lst hs ha => exact .lst (sql_del hp hs) (dpa_del hp ds _ ha)
  | .tuple ds, _, h => by
    cases h with
    | tup hs ha => exact .tup (sqt_del hp hs) (dpa_del hp ds _ ha)
  | .dict _, _, h => by cases h
theorem dpa_del {K : PySem.W.Frag} {H : Hp} {p : Addr} {C dx : Addr} {fs : List (Str × V)} (hp : H p = some (.ins C dx fs)) : ∀ (ds : List PyData) (vs : List V), DpAll K H vs ds → DpAll K (erase p H) vs ds
  | [], _, h => by cases h; exact .nil
  | d :: ds, _, h => by
    cases h with
    | cons h1 h2 => exact .cons (dp_del hp d _ h1) (dpa_del hp ds _ h2)
end
theorem Keep.erase {p : Addr} {A B : Hp} (h : Keep [p] A B) : Same (Pl.erase p A) B := fun b o e => by
  unfold Pl.erase at e
  split at e
  · cases e
  · rename_i n
    exact h b o (by simp [n]) e
theorem dp_ins {K : PySem.W.Frag} {A B : Hp} {p : Addr} {C dx : Addr} {fs : List (Str × V)} {d : PyData} {v : V} (h : Keep [p] A B) (hp : A p = some (.ins C dx fs)) (hd : Dp K A v d) : Dp K B v d := dp_same h.erase _ _ (dp_del hp d v hd)
section
variable {H : Hp}
theorem upd_upd {H : Hp} {p : Addr} {a b : HO} : upd (upd H p a) p b = upd H p b := funext fun x => by
  by_cases e : x = p
  · subst e
    rw [upd_same, upd_same]
  · rw [upd_ne e, upd_ne e, upd_ne e]
end
end Pl

namespace Pl
open PySem PySem.Spec PyProof.Rows L2
/-! ### certain by figures, in two parts -/
theorem certain_split {goal : S3} {g : Int} (gg : goal.Good) : ∀ {ss : List Int} {m : Nat} {now : S3} {cs : List Int}, now.Good → Plan cs g → Signs cs.length ss → withinB goal (strOf now cs g ss) = true → ss.length ≤ m → certainOf goal g m now cs = ss ++ certainOf goal g (m - ss.length) (strOf now cs g ss) (after cs g ss)
  | [], _, _, _, _, _, _, _, _ => rfl
  | x :: r, 0, _, _, _, _, _, _, hm => absurd hm (by simp)
  | x :: r, m + 1, now, cs, h, p, hs, hw, hm => by
    have hx := hs x List.mem_cons_self
    have g1 := part_good h p hx.1 hx.2
    have p1 := p.grown hx.1 hx.2
    have s1 : Signs (grown cs g x).length r := Signs.grown fun y hy => hs y (List.mem_cons_of_mem _ hy)
    obtain ⟨i, rfl⟩ := Int.eq_ofNat_of_zero_le hx.1
    have w1 : withinB goal (partAt now cs (i : Int)) = true := within_trans gg (str_good g1 p1 s1) g1 hw (str_within g1 p1 s1)
    have ih := certain_split gg (ss := r) (m := m) g1 p1 s1 hw (by simpa using hm)
    have e : certainOf goal g (m + 1) now cs = (i : Int) :: certainOf goal g m (partAt now cs (i : Int)) (grown cs g (i : Int)) := by
      show (match signIn goal now cs with | none => [] | some x => (x : Int) :: certainOf goal g m (partAt now cs (x : Int)) (grown cs g (x : Int))) = _
      rw [signIn_is gg h p (by omega) w1]
    rw [e, ih, List.length_cons, Nat.succ_sub_succ]
    rfl
theorem signIn_whole {now : S3} {cs : List Int} {g : Int} (h : now.Good) (p : Plan cs g) : signIn now now cs = none := by
  refine List.find?_eq_none.mpr fun x hx => ?_
  have hx := List.mem_range.mp hx
  rw [part_less h p (x := (x : Int)) (by omega) (by omega)]
  exact Bool.false_ne_true
theorem certain_now {now : S3} {cs : List Int} {g : Int} (h : now.Good) (p : Plan cs g) : ∀ m, certainOf now g m now cs = []
  | 0 => rfl
  | m + 1 => by
    show (match signIn now now cs with | none => [] | some x => (x : Int) :: certainOf now g m (partAt now cs (x : Int)) (grown cs g (x : Int))) = _
    rw [signIn_whole h p]
theorem certain_step {goal now : S3} {cs : List Int} {g : Int} {m : Nat} {x : Nat} (e : signIn goal now cs = some x) : certainOf goal g (m + 1) now cs = (x : Int) :: certainOf goal g m (partAt now cs (x : Int)) (grown cs g (x : Int)) := by
  show (match signIn goal now cs with | none => [] | some x => (x : Int) :: certainOf goal g m (partAt now cs (x : Int)) (grown cs g (x : Int))) = _
  rw [e]
theorem certain_stop {goal now : S3} {cs : List Int} {g : Int} (e : signIn goal now cs = none) : ∀ m, certainOf goal g m now cs = []
  | 0 => rfl
  | m + 1 => by
    show (match signIn goal now cs with | none => [] | some x => (x : Int) :: certainOf goal g m (partAt now cs (x : Int)) (grown cs g (x : Int))) = _
    rw [e]
/-- the signs certain by figures -/
def sgn (cs : List Int) (g : Int) (m : Nat) (as : List Int) : List Int := certainOf (figS as) g m whole3 cs
theorem sgn_nil {cs : List Int} {g : Int} (p : Plan cs g) (m : Nat) : sgn cs g m [] = [] := certain_now whole_good p m
theorem sgn_signs {cs : List Int} {g : Int} (p : Plan cs g) (m : Nat) (as : List Int) : (sgn cs g m as).length ≤ m ∧ Signs cs.length (sgn cs g m as) := certain_signs p
theorem sgn_within {cs : List Int} {g : Int} {m : Nat} {as : List Int} (hb : Bits as) : withinB (figS as) (textS cs g (sgn cs g m as)) = true := certain_within (in_whole (figS_good hb))
theorem Bits.both {as fs : List Int} (h : Bits as) (k : Bits fs) : Bits (as ++ fs) := fun x hx => by
  rcases List.mem_append.mp hx with hx | hx
  · exact h x hx
  · exact k x hx
theorem sgn_more {cs : List Int} {g : Int} {m : Nat} {as fs : List Int} (p : Plan cs g) (ha : Bits as) (hf : Bits fs) : withinB (figS (as ++ fs)) (textS cs g (sgn cs g m as)) = true :=
  within_trans (figS_good (ha.both hf)) (figS_good ha) (str_good whole_good p (sgn_signs p m as).2) (figs_prefix hf) (sgn_within ha)
/-! ### a reader as it stands -/
def rdF (m k : Int) (l : Addr) (S P I : V) : List (Str × V) := [("_many", .int m), ("_signs", .ref l), ("_stretch", S), ("_plan", P), ("_taken", .int k), ("_inner", I)]
abbrev rdN : List Str := ["_many", "_signs", "_stretch", "_plan", "_taken", "_inner"]
section
variable {m k k' : Int} {l : Addr} {S P I S' P' I' : V}
theorem rd_many : (rdF m k l S P I).lookup ("_many" : Str) = some (.int m) := by kernel_rfl
theorem rd_signs : (rdF m k l S P I).lookup ("_signs" : Str) = some (.ref l) := by kernel_rfl
theorem rd_stretch : (rdF m k l S P I).lookup ("_stretch" : Str) = some S := by kernel_rfl
theorem rd_plan : (rdF m k l S P I).lookup ("_plan" : Str) = some P := by kernel_rfl
theorem rd_taken : (rdF m k l S P I).lookup ("_taken" : Str) = some (.int k) := by kernel_rfl
theorem rd_inner : (rdF m k l S P I).lookup ("_inner" : Str) = some I := by kernel_rfl
theorem rd_pstretch : putF "_stretch" S' (rdF m k l S P I) = rdF m k l S' P I := by kernel_rfl
theorem rd_pplan : putF "_plan" P' (rdF m k l S P I) = rdF m k l S P' I := by kernel_rfl
theorem rd_ptaken : putF "_taken" (.int k') (rdF m k l S P I) = rdF m k' l S P I := by kernel_rfl
theorem rd_pinner : putF "_inner" I' (rdF m k l S P I) = rdF m k l S P I' := by kernel_rfl
theorem rd_new : putF "_inner" I (putF "_taken" (.int k) (putF "_plan" P (putF "_stretch" S (putF "_signs" (.ref l) (putF "_many" (.int m) []))))) = rdF m k l S P I := by kernel_rfl
theorem rd_no {x : Str} (h : rdN.contains x = false) : (rdF m k l S P I).lookup x = none := by
  have hb : ∀ y ∈ rdN, (x == y) = false := fun y hy => by
    cases e : (x == y) with
    | false => rfl
    | true =>
      have := beq_iff_eq.mp e
      subst this
      rw [List.contains_iff_mem.mpr hy] at h
      cases h
  unfold rdF
  rw [List.lookup, hb _ (by simp), List.lookup, hb _ (by simp), List.lookup, hb _ (by simp), List.lookup, hb _ (by simp), List.lookup, hb _ (by simp), List.lookup, hb _ (by simp)]
  rfl
theorem rd_len : (rdF m k l S P I).length < 1000 := by show 6 < 1000; omega
end
/-- with the signs ss told, of the figures as -/
structure RdG (K : PySem.W.Frag) (C : Addr) (H : Hp) (p l : Addr) (cs : List Int) (g : Int) (m : Nat) (as ss : List Int) : Prop where
  at_ : ∃ dx S P I, H p = some (.ins C dx (rdF m as.length l S P I)) ∧ Dp K H S (textS cs g ss).d ∧ Dp K H P (planD (after cs g ss) g) ∧ Dp K H I (figS as).d
  sg : H l = some (.lst (ss.map V.int))
structure RdO (cs : List Int) (g : Int) (m : Nat) (as : List Int) : Prop where
  pl : Plan cs g
  m60 : m ≤ 60
  bits : Bits as
  few : as.length ≤ 4000
theorem RdG.ne {K : PySem.W.Frag} {C : Addr} {H : Hp} {p l : Addr} {cs as ss : List Int} {g : Int} {m : Nat} (h : RdG K C H p l cs g m as ss) : l ≠ p := fun z => by
  obtain ⟨dx, S, P, I, e, _⟩ := h.at_
  have := h.sg
  rw [z, e] at this
  cases this
theorem RdG.nt {K : PySem.W.Frag} {C : Addr} {H : Hp} {p l : Addr} {cs as ss : List Int} {g : Int} {m : Nat} (h : RdG K C H p l cs g m as ss) : NoTup [p, l] H := by
  obtain ⟨dx, S, P, I, e, _⟩ := h.at_
  refine notup_of fun a ha => ?_
  simp only [List.mem_cons, List.not_mem_nil, or_false] at ha
  rcases ha with rfl | rfl
  · exact ⟨_, e, nt_ins _ _ _⟩
  · exact ⟨_, h.sg, nt_lst _⟩
/-- as long as neither the reader nor its list is touched -/
theorem RdG.keep {K : PySem.W.Frag} {C : Addr} {H H' : Hp} {p l : Addr} {cs as ss : List Int} {g : Int} {m : Nat} {M : List Addr} (h : RdG K C H p l cs g m as ss) (k : Keep M H H') (hp : p ∉ M) (hl : l ∉ M) (nt : NoTup M H) : RdG K C H' p l cs g m as ss := by
  obtain ⟨dx, S, P, I, e, d1, d2, d3⟩ := h.at_
  exact ⟨⟨dx, S, P, I, k _ _ hp e, dp_keep k nt (tupO_s3 _) d1, dp_keep k nt (tupO_plan _ _) d2, dp_keep k nt (tupO_s3 _) d3⟩, k _ _ hl h.sg⟩
theorem RdG.same {K : PySem.W.Frag} {C : Addr} {H H' : Hp} {p l : Addr} {cs as ss : List Int} {g : Int} {m : Nat} (h : RdG K C H p l cs g m as ss) (s : Same H H') : RdG K C H' p l cs g m as ss :=
  h.keep (M := []) (Same.keep s) (fun z => nomatch z) (fun z => nomatch z) (fun a ha => nomatch ha)
abbrev RdAt (K : PySem.W.Frag) (C : Addr) (H : Hp) (p l : Addr) (cs : List Int) (g : Int) (m : Nat) (as : List Int) : Prop := RdG K C H p l cs g m as (sgn cs g m as)
end Pl

namespace Pl
open PySem PySem.Spec PyProof.Rows L2
/-! ### dicts with text keys -/
abbrev TKey (x : Str) : Key := Sum.inr x
section
variable {K : PySem.W.Frag} {te ta tb td : TE} {tt : TT} {σ : L2.St} {H : Hp} {u tw : TS} {D : Ends} {i j : Nat} {a p : Addr} {kvs : List (Key × V)} {k : Str} {v : V} {d d1 d2 : PyData} {xs : List V} {n m : Int}
theorem ev_dget (h : EvV te σ H (.ref a)) (hd : H a = some (.dK kvs)) (hv : valV kvs (TKey k) = some v) : EvV (tDGet te (tC (.str k))) σ H v := fun H1 Q s1 q =>
  h H1 _ s1 fun H2 s2 => ⟨a, v, rfl, by
    have e := DGet.k (k := TKey k) ((s1.trans s2) _ _ hd)
    rw [hv] at e
    exact e, q H2 s2⟩
theorem putDict (hi : σ[i]? = some (some (.ref a))) (hd : H a = some (.dK kvs)) (hl : kvs.length ≤ 1000) (h : EvV te σ H v) (q : ∀ H1, Same H H1 → u D σ (upd H1 a (.dK (putK kvs (TKey k) v)))) : tSeq (sDPut (tVar i) (tC (.str k)) te) u D σ H :=
  h H _ (Same.refl H) fun H1 s1 => ⟨_, hi, a, _, rfl, DPut.k (k := TKey k) (s1 _ _ hd) (Nat.lt_of_le_of_lt hl (by decide)), q H1 s1⟩
theorem putDictO {ds : List PyData} (hi : σ[i]? = some (some (.ref a))) (hd : H a = some (.dK kvs)) (hl : kvs.length ≤ 1000) (h : EvO K te σ H ds) (q : ∀ r vs H1, H r = none → Same H H1 → H1 r = some (.lst vs) → DpAll K H1 vs ds → u D σ (upd H1 a (.dK (putK kvs (TKey k) (.ref r))))) : tSeq (sDPut (tVar i) (tC (.str k)) te) u D σ H :=
  h H _ (Same.refl H) fun r vs H1 nr s1 e1 d1 => ⟨_, hi, a, _, rfl, DPut.k (k := TKey k) (s1 _ _ hd) (Nat.lt_of_le_of_lt hl (by decide)), q r vs H1 nr s1 e1 d1⟩
/-- xs[n] of a list at its place -/
theorem ev_ixAt (h : EvV ta σ H (.ref p)) (hp : H p = some (.lst xs)) (hn : EvV tb σ H (.int n)) (he : atI xs n = some v) : EvV (tOp (rIxL K) ta tb) σ H v := fun H1 Q s1 q =>
  h H1 _ s1 fun H2 s2 => hn H2 _ (s1.trans s2) fun H3 s3 => ⟨p, xs, n, v, rfl, rfl, .inl (.inl (((s1.trans s2).trans s3) _ _ hp)), he, q H3 (s2.trans s3)⟩
theorem ev_min (ha : EvV ta σ H (.int n)) (hb : EvV tb σ H (.int m)) : EvV (tCB (fun xs H Q => ∃ i j, xs = [.int i, .int j] ∧ Q (.int (if j < i then j else i)) H) (tCons ta (tCons tb tNil))) σ H (.int (if m < n then m else n)) := fun H1 Q s1 q =>
  ha H1 _ s1 fun H2 s2 => hb H2 _ (s1.trans s2) fun H3 s3 => ⟨n, m, rfl, q H3 (s2.trans s3)⟩
/-- for i in range(lo, hi) -/
theorem forR2 {lo : Nat} (ha : EvV ta σ H (.int (lo : Int))) (hb : EvV tb σ H (.int n)) (hz : n ≤ 100000) (hz0 : -100000 ≤ n) (hl : lo ≤ 100000) (Pv : Nat → L2.St → Hp → Prop) (h0 : ∀ H1, Same H H1 → Pv 0 σ H1)
    (hs : ∀ i σ' H', i < (n - (lo : Int)).toNat → Pv i σ' H' → tw { nx := Pv (i + 1), rt := D.rt, bk := u D, ct := Pv (i + 1) } (σ'.set j (some (.int ((lo + i : Nat) : Int)))) H') (hd : ∀ σ' H', Pv (n - (lo : Int)).toNat σ' H' → u D σ' H') : tSeq (tFor (iRng2 (tCons ta (tCons tb tNil))) (gName j) tw) u D σ H :=
  ha H _ (Same.refl H) fun H1 s1 => hb H1 _ s1 fun H2 s2 => ⟨(lo : Int), n, rfl, ⟨by omega, by omega, by omega, by omega⟩,
    for_range (lo := (lo : Int)) (n := (n - (lo : Int)).toNat) (D := { D with nx := u D }) Pv (h0 H2 (s1.trans s2)) (fun i σ' H' hi p => by
      have := hs i σ' H' hi p
      rw [Int.natCast_add] at this
      exact this) hd⟩
/-- a for over a list of pairs, as data -/
theorem forDLP {ds : List (PyData × PyData)} (he : EvD K te σ H (.list (ds.map fun q => .tuple [q.1, q.2]))) (Pv : Nat → L2.St → Hp → Prop) (h0 : ∀ H1, Same H H1 → Pv 0 σ H1)
    (hs : ∀ k d1 d2 x y σ' H' H1, ds[k]? = some (d1, d2) → Same H H1 → Same H1 H' → Dp K H' x d1 → Dp K H' y d2 → Pv k σ' H' → tw { nx := fun σ2 H2 => Same H1 H2 ∧ Pv (k + 1) σ2 H2, rt := D.rt, bk := u D, ct := fun σ2 H2 => Same H1 H2 ∧ Pv (k + 1) σ2 H2 } ((σ'.set i (some x)).set j (some y)) H')
    (hd : ∀ σ' H', Pv ds.length σ' H' → u D σ' H') : tSeq (tFor (iList K te) (gTup K 2 (gCons (gName i) (gCons (gName j) gNil))) tw) u D σ H :=
  he H _ (Same.refl H) fun v H1 s1 dv => by
    obtain ⟨p, vs, rfl, hq, ha⟩ : ∃ p vs, v = .ref p ∧ SqL K H1 p vs ∧ DpAll K H1 vs (ds.map fun q => .tuple [q.1, q.2]) := by
      cases dv with
      | lst hq ha => exact ⟨_, _, rfl, hq, ha⟩
    refine ⟨p, rfl, ⟨_, hq⟩, for_list (K := K) (D := { D with nx := u D }) (fun i σ' H' => Same H1 H' ∧ Pv i σ' H') ⟨Same.refl _, h0 H1 s1⟩ (fun i σ' H' _ q => q.1.seq hq) (fun k x σ' H' e q => ?_) (fun σ' H' q => hd σ' H' (by
      have hl := dpa_len ha
      rw [List.length_map] at hl
      rw [← hl]
      exact q.2))⟩
    obtain ⟨d, ed, hx⟩ := dpa_get2 ha e
    rw [List.getElem?_map] at ed
    obtain ⟨⟨d1, d2⟩, e2, rfl⟩ := Option.map_eq_some_iff.mp ed
    have hx' := dp_same q.1 _ _ hx
    cases hx' with
    | tup ht hta =>
      obtain ⟨v1, v2, rfl, a1, a2⟩ := dpaN2 hta
      exact ⟨_, _, rfl, ht, rfl, _, _, rfl, _, _, rfl, rfl, hs k d1 d2 v1 v2 σ' H' H1 e2 s1 q.1 a1 a2 q.2⟩
end
/-! ### what may change, and the rest -/
def imm (M : List Addr) (H : Hp) : Hp := fun a => if a ∈ M then none else H a
theorem imm_same (M : List Addr) (H : Hp) : Same (imm M H) H := fun b o e => by
  unfold imm at e
  split at e
  · cases e
  · exact e
theorem imm_at {M : List Addr} {H : Hp} {a : Addr} (h : a ∉ M) : imm M H a = H a := if_neg h
theorem imm_keep {M N : List Addr} {A B : Hp} (h : Keep N A B) (hs : ∀ x ∈ N, x ∈ M) : Same (imm M A) (imm M B) := fun b o e => by
  unfold imm at e ⊢
  split at e
  · cases e
  · rename_i n
    rw [if_neg n]
    exact h b o (fun z => n (hs b z)) e
theorem imm_more {M : List Addr} {A B : Hp} {q : Addr} (s : Same A B) (h : A q = none) : Same (imm M A) (imm (q :: M) B) := fun b o e => by
  unfold imm at e ⊢
  split at e
  · cases e
  · rename_i n
    have hb : b ≠ q := fun z => by
      rw [z, h] at e
      cases e
    rw [if_neg (by simp [n, hb])]
    exact s b o e
/-- what is new is not of M, where all of M stand -/
def Live (M : List Addr) (H : Hp) : Prop := ∀ a ∈ M, ∃ o, H a = some o ∧ (∀ xs, o ≠ .tup xs) ∧ ∀ z xs, o ≠ .frz z (.tup xs)
theorem Live.nt {M : List Addr} {H : Hp} (h : Live M H) : NoTup M H := notup_of h
theorem Live.new {M : List Addr} {H : Hp} {q : Addr} (h : Live M H) (n : H q = none) : q ∉ M := fun z => by
  obtain ⟨o, e, _⟩ := h q z
  rw [n] at e
  cases e
theorem nt_dk (kvs : List (Key × V)) : (∀ ys, HO.dK kvs ≠ .tup ys) ∧ ∀ z ys, HO.dK kvs ≠ .frz z (.tup ys) := ⟨(fun _ z => nomatch z), (fun _ _ z => nomatch z)⟩
/-- pairs of two lists that are alike -/
def Pairs (K : PySem.W.Frag) (H : Hp) (xs : List V) : Prop := ∀ x ∈ xs, ∃ (q f c : Addr) (ns : List Int), x = .ref q ∧ SqT K H q [.ref f, .ref c] ∧ H f = some (.lst (ns.map V.int)) ∧ H c = some (.lst (ns.map V.int))
theorem Pairs.same {K : PySem.W.Frag} {H H' : Hp} {xs : List V} (h : Pairs K H xs) (s : Same H H') : Pairs K H' xs := fun x hx => by
  obtain ⟨q, f, c, ns, e, h1, h2, h3⟩ := h x hx
  exact ⟨q, f, c, ns, e, same_t s h1, s _ _ h2, s _ _ h3⟩
theorem Pairs.nil {K : PySem.W.Frag} {H : Hp} : Pairs K H [] := fun _ h => nomatch h
theorem Pairs.app {K : PySem.W.Frag} {H : Hp} {xs ys : List V} (h : Pairs K H xs) (k : Pairs K H ys) : Pairs K H (xs ++ ys) := fun x hx => by
  rcases List.mem_append.mp hx with hx | hx
  · exact h x hx
  · exact k x hx
theorem Pairs.one {K : PySem.W.Frag} {H : Hp} {q f c : Addr} {ns : List Int} (h : H q = some (.tup [.ref f, .ref c])) (hf : H f = some (.lst (ns.map V.int))) (hc : H c = some (.lst (ns.map V.int))) : Pairs K H [.ref q] := fun x hx => by
  rw [List.mem_singleton.mp hx]
  exact ⟨q, f, c, ns, rfl, .inl (.inl h), hf, hc⟩
/-- [1 for a, b in xs if a != b] -/
theorem evo_lcPairs {K : PySem.W.Frag} {te : TE} {σ : L2.St} {H : Hp} {i j : Nat} {p : Addr} {xs : List V} (h : EvV te σ H (.ref p)) (hp : SqL K H p xs) (hP : Pairs K H xs) (hw : ∀ x y, wipe (((wipe σ [i, j]).set i (some x)).set j (some y)) [i, j] = wipe σ [i, j])
    (hi : ∀ x y, (((wipe σ [i, j]).set i (some x)).set j (some y))[i]? = some (some x)) (hj : ∀ x y, (((wipe σ [i, j]).set i (some x)).set j (some y))[j]? = some (some y)) :
    EvO K (tLc (iList K te) (gTup K 2 (gCons (gName i) (gCons (gName j) gNil))) (tTest (tOp (rNeD K) (tVar i) (tVar j))) (tC (.int 1)) [i, j]) σ H (([] : List Int).map PyData.int) := fun H1 Q s1 k => by
  show te σ H1 fun x H2 => tLc (iList K (tC x)) (gTup K 2 (gCons (gName i) (gCons (gName j) gNil))) (tTest (tOp (rNeD K) (tVar i) (tVar j))) (tC (.int 1)) [i, j] σ H2 Q
  refine h H1 _ s1 fun H2 s2 => ?_
  have t2 := s1.trans s2
  refine ⟨p, rfl, ⟨xs, t2.seq hp⟩, fun L hL => ?_⟩
  refine L2.lc_list (K := K) (a := p) (xs := xs) (fun _ H' => Same H2 H' ∧ H' L = some (.lst [])) ⟨same_upd hL, upd_same⟩ (fun n H' _ q => (t2.trans q.1).seq hp) ?_ ?_
  · rintro n x H' e ⟨s3, eL⟩
    obtain ⟨q, f, c, ns, rfl, h1, h2, h3⟩ := hP x (List.mem_of_getElem? e)
    have t3 := t2.trans s3
    refine ⟨q, _, rfl, same_t t3 h1, rfl, _, _, rfl, _, _, rfl, rfl, hw _ _, ?_⟩
    refine (EvB.is (evb_test (ev_neL (K := K) (evd_var (hi _ _) (dp_list (t3 _ _ h2))) (evd_var (hj _ _) (dp_list (t3 _ _ h3))))) (by rw [decide_eq_true rfl]; first | done | rfl)) H' _ (Same.refl _) fun H4 s4 => ?_
    exact iteF ⟨s3.trans s4, s4 _ _ eL⟩
  · rintro H' ⟨s3, eL⟩
    exact k L [] H' (s2.free hL) (s2.trans s3) eL .nil
theorem asgT {te : TE} {σ : L2.St} {H : Hp} {u : TS} {D : Ends} {i : Nat} (h : te σ H fun x H1 => u D (σ.set i (some x)) H1) : tSeq (tAsg te (gName i)) u D σ H := h
theorem retT {te : TE} {σ : L2.St} {H : Hp} {D : Ends} (h : te σ H D.rt) : tRet te D σ H := h
theorem dispT {trs : List (TE × TE)} {σ : L2.St} {H : Hp} {Q : VK} (h : ∀ p, H p = none → tPairs trs σ (upd H p (.dK [])) fun ps H2 => H2 p = some (.dK []) ∧ ∃ kvs : List (Key × V), ps = kvs.map (fun kv => (kV kv.1, kv.2)) ∧ kvs.length ≤ 15 ∧ Q (.ref p) (upd H2 p (.dK (mergeK [] kvs)))) : tDisp trs σ H Q := h
theorem EvO.run {K : PySem.W.Frag} {te : TE} {σ : L2.St} {H : Hp} {ds : List PyData} {Q : VK} (h : EvO K te σ H ds) (k : ∀ p vs H2, H p = none → Same H H2 → H2 p = some (.lst vs) → DpAll K H2 vs ds → Q (.ref p) H2) : te σ H Q := h H Q (Same.refl _) k
theorem EvV.run {te : TE} {σ : L2.St} {H : Hp} {v : V} {Q : VK} (h : EvV te σ H v) (k : ∀ H2, Same H H2 → Q v H2) : te σ H Q := h H Q (Same.refl _) k
theorem EvD.run {K : PySem.W.Frag} {te : TE} {σ : L2.St} {H : Hp} {d : PyData} {Q : VK} (h : EvD K te σ H d) (k : ∀ v H2, Same H H2 → Dp K H2 v d → Q v H2) : te σ H Q := h H Q (Same.refl _) k
theorem EvB.run {tt : TT} {σ : L2.St} {H : Hp} {b : Bool} {Q : Bool → Hp → Prop} (h : EvB tt σ H b) (k : ∀ H2, Same H H2 → Q b H2) : tt σ H Q := h H Q (Same.refl _) k
/-! ### in an except suite there is as much room -/
theorem hu3_of {A B : Around} {k : Nat} (hr : Room k A) (h : B.units = A.units) : B.units + 64 < cLine := by
  rw [h]
  exact hu2_of hr
theorem hu4_of {A B : Around} {k : Nat} (hr : Room k A) (h : B.units = A.units) : B.units + 1 < cLine := Nat.lt_of_le_of_lt (by omega) (hu3_of hr h)
/-! ### o.append((x, list(x))) -/
theorem appPair {K : PySem.W.Frag} {ta : TE} {σ : L2.St} {H : Hp} {u : TS} {D : Ends} {j : Nat} {p f : Addr} {xs : List V} {ns : List Int} (h0 : EvV ta σ H (.ref p)) (hp : H p = some (.lst xs)) (hl : xs.length ≤ 100000) (hj : σ[j]? = some (some (.ref f))) (hf : H f = some (.lst (ns.map V.int)))
    (k : ∀ c q H2, H c = none → H q = none → c ≠ q → Same H H2 → H2 c = some (.lst (ns.map V.int)) → H2 q = some (.tup [.ref f, .ref c]) → u D σ (upd H2 p (.lst (xs ++ [.ref q])))) :
    tSeq (tDrop (tBM K "list" rAppend ta (tCons (tTup (tCons (tVar j) (tCons (tCB (rListK K) (tCons (tVar j) tNil)) tNil))) tNil))) u D σ H :=
  h0 H _ (Same.refl H) fun H1 s1 => ⟨.inl ⟨rfl, _, .inl (.inl (s1 _ _ hp))⟩, _, hj, _, hj, f, _, rfl, .inl (.inl (.inl (s1 _ _ hf))), fun c nc => ⟨(by show 2 ≤ sizeLine; decide), fun q nq => by
    have sc := same_upd nc (o := HO.lst (ns.map V.int))
    have sq := same_upd nq (o := HO.tup [V.ref f, V.ref c])
    have hcq : c ≠ q := fun z => by
      rw [← z, upd_same] at nq
      cases nq
    exact ⟨p, xs, .ref q, rfl, rfl, sq _ _ (sc _ _ (s1 _ _ hp)), Nat.lt_of_le_of_lt hl (by decide), k c q _ (s1.free nc) (s1.free (sc.free nq)) hcq ((s1.trans sc).trans sq) (sq _ _ upd_same) upd_same⟩⟩⟩
theorem if_asgO {K : PySem.W.Frag} {tt : TT} {te : TE} {σ : L2.St} {H H0 : Hp} {u : TS} {D : Ends} {i : Nat} {b : Bool} {p : Addr} {ns ms : List Int} (s0 : Same H0 H) (np : H0 p = none) (h : EvB tt σ H b) (ha : b = true → EvO K te σ H (ms.map PyData.int)) (hx : σ[i]? = some (some (.ref p))) (hp : H p = some (.lst (ns.map V.int)))
    (k : ∀ q H1, Same H H1 → H0 q = none → H1 q = some (.lst ((if b then ms else ns).map V.int)) → u D (σ.set i (some (.ref q))) H1) : tSeq (tIfS tt (tAsg te (gName i)) tNext) u D σ H :=
  h H _ (Same.refl H) fun H1 s1 => by
    cases b with
    | true => exact iteT (asgLastO ((ha rfl).mono s1) fun q vs H2 nq s2 e2 d2 => k q H2 (s1.trans s2) ((s0.trans s1).free nq) (by rw [dpa_ints_eq d2] at e2; exact e2))
    | false =>
      have e : σ.set i (some (.ref p)) = σ := by
        obtain ⟨hi, e⟩ := List.getElem?_eq_some_iff.mp hx
        rw [← e, List.set_getElem_self]
      have := k p H1 s1 np (s1 _ _ hp)
      rw [e] at this
      exact iteF this
theorem imm_notin {M : List Addr} {H : Hp} {x : Addr} {o : HO} (e : imm M H x = some o) : x ∉ M := fun z => by
  unfold imm at e
  rw [if_pos z] at e
  cases e
/-! ### a dict that holds a reader -/
def oneKV (p : Addr) (v : V) (m : Int) (r t s w : Addr) : List (Key × V) := [(TKey "reader", .ref p), (TKey "plan", v), (TKey "many", .int m), (TKey "row", .ref r), (TKey "taken", .ref t), (TKey "signs", .ref s), (TKey "shown", .ref w)]
section
variable {p r t s w t' s' : Addr} {v : V} {m : Int}
theorem kv_reader : valV (oneKV p v m r t s w) (TKey "reader") = some (.ref p) := by kernel_rfl
theorem kv_plan : valV (oneKV p v m r t s w) (TKey "plan") = some v := by kernel_rfl
theorem kv_many : valV (oneKV p v m r t s w) (TKey "many") = some (.int m) := by kernel_rfl
theorem kv_row : valV (oneKV p v m r t s w) (TKey "row") = some (.ref r) := by kernel_rfl
theorem kv_taken : valV (oneKV p v m r t s w) (TKey "taken") = some (.ref t) := by kernel_rfl
theorem kv_signs : valV (oneKV p v m r t s w) (TKey "signs") = some (.ref s) := by kernel_rfl
theorem kv_shown : valV (oneKV p v m r t s w) (TKey "shown") = some (.ref w) := by kernel_rfl
theorem kv_ptaken : putK (oneKV p v m r t s w) (TKey "taken") (.ref t') = oneKV p v m r t' s w := by kernel_rfl
theorem kv_psigns : putK (oneKV p v m r t s w) (TKey "signs") (.ref s') = oneKV p v m r t s' w := by kernel_rfl
theorem kv_merge : mergeK [] (oneKV p v m r t s w) = oneKV p v m r t s w := by kernel_rfl
theorem kv_len : (oneKV p v m r t s w).length ≤ 1000 := by show 7 ≤ 1000; omega
end
structure One8 (K : PySem.W.Frag) (C : Addr) (M : List Addr) (H : Hp) (a p l w : Addr) (cs : List Int) (g : Int) (m : Nat) (row as : List Int) (n : Nat) : Prop where
  ms : ∀ x ∈ [a, p, l, w], x ∈ M
  dic : ∃ v r t s, H a = some (.dK (oneKV p v m r t s w)) ∧ Dp K (imm M H) v (planD cs g) ∧ imm M H r = some (.lst (row.map V.int)) ∧ imm M H t = some (.lst (as.map V.int)) ∧ imm M H s = some (.lst ((sgn cs g m as).map V.int))
  rd : RdAt K C H p l cs g m as
  sh : ∃ xs, H w = some (.lst xs) ∧ Pairs K (imm M H) xs ∧ xs.length ≤ n
section
variable {K : PySem.W.Frag} {C : Addr} {M N : List Addr} {H H' : Hp} {a p l w q : Addr} {cs row as : List Int} {g : Int} {m n : Nat}
theorem One8.keep (h : One8 K C M H a p l w cs g m row as n) (k : Keep N H H') (hN : ∀ x ∈ N, x ∈ M) (nt : NoTup N H) (hd : ∀ x ∈ [a, p, l, w], x ∉ N) : One8 K C M H' a p l w cs g m row as n := by
  obtain ⟨v, r, t, s, e, d1, d2, d3, d4⟩ := h.dic
  obtain ⟨xs, ex, px, lx⟩ := h.sh
  have si := imm_keep k hN
  exact ⟨h.ms, ⟨v, r, t, s, k a _ (hd a (by simp)) e, dp_same si _ _ d1, si _ _ d2, si _ _ d3, si _ _ d4⟩, h.rd.keep k (hd p (by simp)) (hd l (by simp)) nt, ⟨xs, k w _ (hd w (by simp)) ex, px.same si, lx⟩⟩
theorem One8.same (h : One8 K C M H a p l w cs g m row as n) (s : Same H H') : One8 K C M H' a p l w cs g m row as n :=
  h.keep (N := []) (Same.keep s) (fun _ z => nomatch z) (fun _ z => nomatch z) (fun _ _ z => nomatch z)
theorem One8.live (h : One8 K C M H a p l w cs g m row as n) : Live [a, p, l, w] H := fun x hx => by
  obtain ⟨v, r, t, s, e, _⟩ := h.dic
  obtain ⟨dx, S, P, I, e2, _⟩ := h.rd.at_
  obtain ⟨xs, ex, _⟩ := h.sh
  simp only [List.mem_cons, List.not_mem_nil, or_false] at hx
  rcases hx with rfl | rfl | rfl | rfl
  · exact ⟨_, e, nt_dk _⟩
  · exact ⟨_, e2, nt_ins _ _ _⟩
  · exact ⟨_, h.rd.sg, nt_lst _⟩
  · exact ⟨_, ex, nt_lst _⟩
/-- one more that may change -/
theorem One8.more (h : One8 K C M H a p l w cs g m row as n) (s : Same H H') (hq : H q = none) : One8 K C (q :: M) H' a p l w cs g m row as n := by
  obtain ⟨v, r, t, z, e, d1, d2, d3, d4⟩ := h.dic
  obtain ⟨xs, ex, px, lx⟩ := h.sh
  have si := imm_more (M := M) s hq
  exact ⟨fun x hx => List.mem_cons_of_mem _ (h.ms x hx), ⟨v, r, t, z, s _ _ e, dp_same si _ _ d1, si _ _ d2, si _ _ d3, si _ _ d4⟩, h.rd.same s, ⟨xs, s _ _ ex, px.same si, lx⟩⟩
end
/-- what stands while one is changed, from H0 on -/
structure B8 (K : PySem.W.Frag) (C : Addr) (H0 Hc : Hp) (a p l w : Addr) (kv : List (Key × V)) (xs : List V) (cs : List Int) (g : Int) (m : Nat) (as : List Int) : Prop where
  kp : Keep [a, p, l, w] H0 Hc
  ea : Hc a = some (.dK kv)
  ew : Hc w = some (.lst xs)
  rd : RdAt K C Hc p l cs g m as
section
variable {K : PySem.W.Frag} {C : Addr} {H0 Hc H' : Hp} {a p l w x : Addr} {kv kv' : List (Key × V)} {xs xs' : List V} {cs as : List Int} {g : Int} {m : Nat}
theorem B8.same (h : B8 K C H0 Hc a p l w kv xs cs g m as) (s : Same Hc H') : B8 K C H0 H' a p l w kv xs cs g m as := ⟨h.kp.trans (Same.keep s), s _ _ h.ea, s _ _ h.ew, h.rd.same s⟩
theorem B8.mut (h : B8 K C H0 Hc a p l w kv xs cs g m as) {ys : List V} {o : HO} (hx : Hc x = some (.lst ys)) (n0 : H0 x = none) (n : x ≠ a ∧ x ≠ p ∧ x ≠ l ∧ x ≠ w) : B8 K C H0 (upd Hc x o) a p l w kv xs cs g m as := by
  have k : Keep [x] Hc (upd Hc x o) := keep_upd (by simp)
  have nt : NoTup [x] Hc := notup_of fun y hy => by rw [List.mem_singleton.mp hy]; exact ⟨_, hx, nt_lst _⟩
  refine ⟨fun b z nb eb => ?_, k a _ (by simp [n.1.symm]) h.ea, k w _ (by simp [n.2.2.2.symm]) h.ew, h.rd.keep k (by simp [n.2.1.symm]) (by simp [n.2.2.1.symm]) nt⟩
  have hb : b ≠ x := fun q => by rw [q, n0] at eb; cases eb
  rw [upd_ne hb]
  exact h.kp b z nb eb
theorem B8.dict (h : B8 K C H0 Hc a p l w kv xs cs g m as) (n : a ≠ p ∧ a ≠ l ∧ a ≠ w) : B8 K C H0 (upd Hc a (.dK kv')) a p l w kv' xs cs g m as := by
  have k : Keep [a] Hc (upd Hc a (.dK kv')) := keep_upd (by simp)
  have nt : NoTup [a] Hc := notup_of fun y hy => by rw [List.mem_singleton.mp hy]; exact ⟨_, h.ea, nt_dk _⟩
  exact ⟨h.kp.trans (keep_upd (by simp)), upd_same, k w _ (by simp [n.2.2.symm]) h.ew, h.rd.keep k (by simp [n.1.symm]) (by simp [n.2.1.symm]) nt⟩
theorem B8.show_ (h : B8 K C H0 Hc a p l w kv xs cs g m as) (n : a ≠ w ∧ p ≠ w ∧ l ≠ w) : B8 K C H0 (upd Hc w (.lst xs')) a p l w kv xs' cs g m as := by
  have k : Keep [w] Hc (upd Hc w (.lst xs')) := keep_upd (by simp)
  have nt : NoTup [w] Hc := notup_of fun y hy => by rw [List.mem_singleton.mp hy]; exact ⟨_, h.ew, nt_lst _⟩
  exact ⟨h.kp.trans (keep_upd (by simp)), k a _ (by simp [n.1]) h.ea, upd_same, h.rd.keep k (by simp [n.2.1]) (by simp [n.2.2]) nt⟩
end
end Pl

namespace Pl
open PySem PySem.Spec PyProof.Rows L2
/-! ### the figures around a stretch -/
theorem nat_xor_zero {a b : Nat} (h : a ^^^ b = 0) : a = b := Nat.eq_of_testBit_eq fun i => by
  have e := congrArg (fun x => Nat.testBit x i) h
  simp only [Nat.testBit_xor, Nat.zero_testBit] at e
  cases ea : a.testBit i <;> cases eb : b.testBit i <;> rw [ea, eb] at e <;> first | rfl | cases e
theorem nat_xor_bits {a b j : Nat} : a ^^^ b < 2 ^ j ↔ a / 2 ^ j = b / 2 ^ j := by
  have p : 0 < 2 ^ j := Nat.two_pow_pos j
  have e : (a ^^^ b) / 2 ^ j = a / 2 ^ j ^^^ b / 2 ^ j := by
    rw [← Nat.shiftRight_eq_div_pow, ← Nat.shiftRight_eq_div_pow, ← Nat.shiftRight_eq_div_pow, Nat.shiftRight_xor_distrib]
  constructor
  · intro h
    rw [Nat.div_eq_of_lt h] at e
    exact nat_xor_zero e.symm
  · intro h
    rw [h, Nat.xor_self] at e
    rcases Nat.div_eq_zero_iff.mp e with z | z
    · omega
    · exact z
/-- the bits in which two numbers differ -/
theorem differ_iff {x y : Int} {j : Nat} (hx : 0 ≤ x) (hy : 0 ≤ y) : Builtin.Int.intBits (Builtin.bitXor x y) ≤ j ↔ x / 2 ^ j = y / 2 ^ j := by
  rw [PySem.intBits_le_iff, Bits.bitXor_pp hx hy, Int.natAbs_natCast, nat_xor_bits]
  obtain ⟨a, rfl⟩ := Int.eq_ofNat_of_zero_le hx
  obtain ⟨b, rfl⟩ := Int.eq_ofNat_of_zero_le hy
  rw [Int.toNat_natCast, Int.toNat_natCast]
  have e : (2 : Int) ^ j = ((2 ^ j : Nat) : Int) := by rw [Int.natCast_pow]; rfl
  rw [e, ← Int.natCast_ediv, ← Int.natCast_ediv]
  exact Int.natCast_inj.symm
def aFirst (s : S3) (k : Nat) : Int := s.l * 2 ^ k / s.t
def aLast (s : S3) (k : Nat) : Int := ((s.l + s.w) * 2 ^ k - 1) / s.t
def aDiff (s : S3) (k : Nat) : Nat := Builtin.Int.intBits (Builtin.bitXor (aFirst s k) (aLast s k))
section
variable {s : S3} {k : Nat}
theorem lowPos (h : s.Good) (k : Nat) : 0 ≤ s.l * 2 ^ k := Int.mul_nonneg h.l0 (by have := pow2_pos k; omega)
theorem highPos (h : s.Good) (k : Nat) : 1 ≤ (s.l + s.w) * 2 ^ k := by
  have p := pow2_pos k
  have m := Int.mul_le_mul_of_nonneg_right h.w1 (show (0 : Int) ≤ 2 ^ k by omega)
  have := lowPos h k
  rw [Int.add_mul]
  omega
theorem aFirst_nn (h : s.Good) (k : Nat) : 0 ≤ aFirst s k := Int.ediv_nonneg (lowPos h k) (Int.le_of_lt h.t0)
theorem aLast_nn (h : s.Good) (k : Nat) : 0 ≤ aLast s k := Int.ediv_nonneg (by have := highPos h k; omega) (Int.le_of_lt h.t0)
theorem aFirst_le (h : s.Good) {x : Int} : x ≤ aFirst s k ↔ x * s.t ≤ s.l * 2 ^ k := Int.le_ediv_iff_mul_le h.t0
theorem aLast_lt (h : s.Good) {x : Int} : aLast s k < x ↔ (s.l + s.w) * 2 ^ k ≤ x * s.t := by
  unfold aLast
  rw [Int.ediv_lt_iff_lt_mul h.t0]
  omega
theorem aLast_top (h : s.Good) (k : Nat) : aLast s k < 2 ^ k := (aLast_lt h).mpr (by
  rw [Int.mul_comm (2 ^ k)]
  exact Int.mul_le_mul_of_nonneg_right h.lw (by have := pow2_pos k; omega))
theorem aFirst_last (h : s.Good) (k : Nat) : aFirst s k ≤ aLast s k := by
  rcases Int.lt_or_le (aLast s k) (aFirst s k) with z | z
  · have a := (aLast_lt h (x := aFirst s k)).mp z
    have b := (aFirst_le h (x := aFirst s k) (k := k)).mp (Int.le_refl _)
    have p := pow2_pos k
    have m := Int.mul_le_mul_of_nonneg_right h.w1 (show (0 : Int) ≤ 2 ^ k by omega)
    rw [Int.add_mul] at a
    omega
  · exact z
theorem aDiff_le (h : s.Good) (k : Nat) : aDiff s k ≤ k := (differ_iff (aFirst_nn h k) (aLast_nn h k)).mpr (by
  have t := aLast_top h k
  have f := aFirst_last h k
  rw [Int.ediv_eq_zero_of_lt (aFirst_nn h k) (by omega), Int.ediv_eq_zero_of_lt (aLast_nn h k) t])
theorem pow_split {d k : Nat} (h : d ≤ k) : (2 : Int) ^ k = 2 ^ (k - d) * 2 ^ d := by
  rw [← Int.pow_add]
  congr 1
  omega
/-- a number of k - d figures that holds the stretch is the first's and the last's share -/
theorem hold_div (h : s.Good) {d : Nat} (hd : d ≤ k) (x : Int) : (x * s.t ≤ s.l * 2 ^ (k - d) ∧ (s.l + s.w) * 2 ^ (k - d) ≤ (x + 1) * s.t) ↔ aFirst s k / 2 ^ d = x ∧ aLast s k / 2 ^ d = x := by
  have p := pow2_pos d
  have ps := pow_split hd
  have e1 : x * s.t ≤ s.l * 2 ^ (k - d) ↔ x ≤ aFirst s k / 2 ^ d := by
    rw [Int.le_ediv_iff_mul_le p, aFirst_le h, ps, ← Int.mul_assoc, Int.mul_right_comm x]
    exact (Int.mul_le_mul_iff_of_pos_right p).symm
  have e2 : (s.l + s.w) * 2 ^ (k - d) ≤ (x + 1) * s.t ↔ aLast s k / 2 ^ d < x + 1 := by
    rw [Int.ediv_lt_iff_lt_mul p, aLast_lt h, ps, ← Int.mul_assoc, Int.mul_right_comm (x + 1)]
    exact (Int.mul_le_mul_iff_of_pos_right p).symm
  have m : aFirst s k / 2 ^ d ≤ aLast s k / 2 ^ d := Int.ediv_le_ediv p (aFirst_last h k)
  rw [e1, e2]
  constructor
  · rintro ⟨a, b⟩
    constructor <;> omega
  · rintro ⟨a, b⟩
    constructor <;> omega
theorem around_ok (h : s.Good) (hk : WideK s k) : bitsOf (k - aDiff s k) (aFirst s k / 2 ^ aDiff s k) = sureOf s := by
  have dk := aDiff_le h k
  have nf := aFirst_nn h k
  have nl := aLast_nn h k
  have agree := (differ_iff nf nl (j := aDiff s k)).mp (Nat.le_refl _)
  have hq := (hold_div h dk (aFirst s k / 2 ^ aDiff s k)).mpr ⟨rfl, agree.symm⟩
  have q0 : 0 ≤ aFirst s k / 2 ^ aDiff s k := Int.ediv_nonneg nf (Int.le_of_lt (pow2_pos _))
  have q1 : aFirst s k / 2 ^ aDiff s k < 2 ^ (k - aDiff s k) := by
    rw [Int.ediv_lt_iff_lt_mul (pow2_pos _), ← pow_split dk]
    have := aLast_top h k
    have := aFirst_last h k
    omega
  have bl := bitsOf_len (k - aDiff s k) (aFirst s k / 2 ^ aDiff s k)
  have bb := bitsOf_bits (k - aDiff s k) (aFirst s k / 2 ^ aDiff s k)
  have bn := bitsOf_num (k - aDiff s k) (aFirst s k / 2 ^ aDiff s k) q0 q1
  generalize bitsOf (k - aDiff s k) (aFirst s k / 2 ^ aDiff s k) = fs at bl bb bn
  have hw : withinB s (figS fs) = true := within_iff.mpr ⟨by
    show numOf fs * s.t ≤ s.l * 2 ^ fs.length
    rw [bl, bn]
    exact hq.1, by
    show (s.l + s.w) * 2 ^ fs.length ≤ (numOf fs + 1) * s.t
    rw [bl, bn]
    exact hq.2⟩
  obtain ⟨r, e⟩ := sure_longest h bb hw
  cases r with
  | nil => rw [e, List.append_nil]
  | cons f r =>
    exfalso
    obtain ⟨sb, sw, _⟩ := sure_ok h
    have e' : sureOf s = (fs ++ [f]) ++ r := by rw [e]; simp
    rw [e'] at sb sw
    have b1 : Bits (fs ++ [f]) := fun x hx => sb x (List.mem_append_left _ hx)
    have b2 : Bits r := fun x hx => sb x (List.mem_append_right _ hx)
    have w1 := within_trans h (figS_good sb) (figS_good b1) sw (figs_prefix b2)
    rcases Nat.eq_zero_or_pos (aDiff s k) with z | z
    · have := sure_few h b1 w1
      rw [List.length_append, bl, z, List.length_singleton, Nat.sub_zero, Int.pow_succ] at this
      have w := hk.1
      have p := pow2_pos k
      have m := Int.mul_le_mul_of_nonneg_left h.w1 (show (0 : Int) ≤ 2 ^ k by omega)
      rw [Int.mul_right_comm, Int.mul_comm (2 ^ k) s.w] at this
      rw [Int.mul_comm (2 ^ k) s.w] at m
      omega
    · obtain ⟨a, b⟩ := within_iff.mp w1
      have a : numOf (fs ++ [f]) * s.t ≤ s.l * 2 ^ (fs ++ [f]).length := a
      have b : (s.l + s.w) * 2 ^ (fs ++ [f]).length ≤ (numOf (fs ++ [f]) + 1) * s.t := b
      have el : (fs ++ [f]).length = k - (aDiff s k - 1) := by
        rw [List.length_append, bl]
        show _ + 1 = _
        omega
      rw [el] at a b
      obtain ⟨x1, x2⟩ := (hold_div h (d := aDiff s k - 1) (by omega) _).mp ⟨a, b⟩
      have := (differ_iff nf nl (j := aDiff s k - 1)).mpr (x1.trans x2.symm)
      unfold aDiff at this z
      omega
end
end Pl

namespace Pl
open PySem PySem.Spec PyProof.Rows L2
/-! ### a writer as it stands -/
def wrF (k : Int) (S P : V) (l : Addr) (e : Bool) : List (Str × V) := [("_taken", .int k), ("_stretch", S), ("_plan", P), ("_figures", .ref l), ("_ended", .bl e)]
abbrev wrN : List Str := ["_taken", "_stretch", "_plan", "_figures", "_ended"]
section
variable {k k' : Int} {l l' : Addr} {S P S' P' : V} {e e' : Bool}
theorem wr_taken : (wrF k S P l e).lookup ("_taken" : Str) = some (.int k) := by kernel_rfl
theorem wr_stretch : (wrF k S P l e).lookup ("_stretch" : Str) = some S := by kernel_rfl
theorem wr_plan : (wrF k S P l e).lookup ("_plan" : Str) = some P := by kernel_rfl
theorem wr_figures : (wrF k S P l e).lookup ("_figures" : Str) = some (.ref l) := by kernel_rfl
theorem wr_ended : (wrF k S P l e).lookup ("_ended" : Str) = some (.bl e) := by kernel_rfl
theorem wr_ptaken : putF "_taken" (.int k') (wrF k S P l e) = wrF k' S P l e := by kernel_rfl
theorem wr_pstretch : putF "_stretch" S' (wrF k S P l e) = wrF k S' P l e := by kernel_rfl
theorem wr_pplan : putF "_plan" P' (wrF k S P l e) = wrF k S P' l e := by kernel_rfl
theorem wr_pfigures : putF "_figures" (.ref l') (wrF k S P l e) = wrF k S P l' e := by kernel_rfl
theorem wr_pended : putF "_ended" (.bl e') (wrF k S P l e) = wrF k S P l e' := by kernel_rfl
theorem wr_new : putF "_ended" (.bl e) (putF "_figures" (.ref l) (putF "_plan" P (putF "_stretch" S (putF "_taken" (.int k) [])))) = wrF k S P l e := by kernel_rfl
theorem wr_no {x : Str} (h : wrN.contains x = false) : (wrF k S P l e).lookup x = none := by
  have hb : ∀ y ∈ wrN, (x == y) = false := fun y hy => by
    cases e : (x == y) with
    | false => rfl
    | true =>
      have := beq_iff_eq.mp e
      subst this
      rw [List.contains_iff_mem.mpr hy] at h
      cases h
  unfold wrF
  rw [List.lookup, hb _ (by simp), List.lookup, hb _ (by simp), List.lookup, hb _ (by simp), List.lookup, hb _ (by simp), List.lookup, hb _ (by simp)]
  rfl
theorem wr_len : (wrF k S P l e).length < 1000 := by show 5 < 1000; omega
end
/-- with the signs ss taken and the figures fs told -/
structure WrG (K : PySem.W.Frag) (C : Addr) (H : Hp) (p l : Addr) (cs : List Int) (g : Int) (ss fs : List Int) (e : Bool) : Prop where
  at_ : ∃ dx S P, H p = some (.ins C dx (wrF ss.length S P l e)) ∧ Dp K H S (textS cs g ss).d ∧ Dp K H P (planD (after cs g ss) g)
  fg : H l = some (.lst (fs.map V.int))
section
variable {K : PySem.W.Frag} {C : Addr} {H H' : Hp} {p l : Addr} {cs ss fs : List Int} {g : Int} {e : Bool} {M : List Addr}
theorem WrG.ne (h : WrG K C H p l cs g ss fs e) : l ≠ p := fun z => by
  obtain ⟨dx, S, P, e1, _⟩ := h.at_
  have := h.fg
  rw [z, e1] at this
  cases this
theorem WrG.nt (h : WrG K C H p l cs g ss fs e) : NoTup [p] H := by
  obtain ⟨dx, S, P, e1, _⟩ := h.at_
  exact notup_of fun a ha => by
    rw [List.mem_singleton.mp ha]
    exact ⟨_, e1, nt_ins _ _ _⟩
theorem WrG.keep (h : WrG K C H p l cs g ss fs e) (k : Keep M H H') (hp : p ∉ M) (hl : l ∉ M) (nt : NoTup M H) : WrG K C H' p l cs g ss fs e := by
  obtain ⟨dx, S, P, e1, d1, d2⟩ := h.at_
  exact ⟨⟨dx, S, P, k _ _ hp e1, dp_keep k nt (tupO_s3 _) d1, dp_keep k nt (tupO_plan _ _) d2⟩, k _ _ hl h.fg⟩
theorem WrG.same (h : WrG K C H p l cs g ss fs e) (s : Same H H') : WrG K C H' p l cs g ss fs e :=
  h.keep (M := []) (Same.keep s) (fun z => nomatch z) (fun z => nomatch z) (fun a ha => nomatch ha)
end
theorem sure_whole : sureOf whole3 = [] := by
  obtain ⟨hb, hw, _⟩ := sure_ok whole_good
  have := sure_few whole_good hb hw
  have e : (2 : Int) ^ (sureOf whole3).length * 1 ≤ 1 := this
  cases h : sureOf whole3 with
  | nil => rfl
  | cons x r =>
    rw [h, List.length_cons, Int.pow_succ] at e
    have := pow2_pos r.length
    omega
/-- for over a list of ints, whatever is done, so long as the list stands -/
theorem forLI {K : PySem.W.Frag} {te : TE} {tw u : TS} {D : Ends} {σ : L2.St} {H : Hp} {j : Nat} {ns : List Int} (he : EvD K te σ H (.list (ns.map PyData.int))) (k : ∀ p H1, Same H H1 → SqL K H1 p (ns.map V.int) → ∃ Pv : Nat → L2.St → Hp → Prop, Pv 0 σ H1 ∧ (∀ i σ' H', Pv i σ' H' → SqL K H' p (ns.map V.int)) ∧
    (∀ i n σ' H', ns[i]? = some n → Pv i σ' H' → tw { nx := Pv (i + 1), rt := D.rt, bk := u D, ct := Pv (i + 1) } (σ'.set j (some (.int n))) H') ∧ ∀ σ' H', Pv ns.length σ' H' → u D σ' H') : tSeq (tFor (iList K te) (gName j) tw) u D σ H :=
  he H _ (Same.refl H) fun v H1 s1 dv => by
    obtain ⟨p, rfl, hq⟩ : ∃ p, v = .ref p ∧ SqL K H1 p (ns.map V.int) := by
      cases dv with
      | lst hs ha =>
        rw [dpa_ints_eq ha] at hs
        exact ⟨_, rfl, hs⟩
    obtain ⟨Pv, h0, hl, hs, hd⟩ := k p H1 s1 hq
    refine ⟨p, rfl, ⟨_, hq⟩, for_list (K := K) (D := { D with nx := u D }) Pv h0 (fun i σ' H' _ q => hl i σ' H' q) (fun i x σ' H' e q => ?_) (fun σ' H' q => hd σ' H' (by rw [List.length_map] at q; exact q))⟩
    obtain ⟨n, en, rfl⟩ := get_int e
    exact hs i n σ' H' en q
theorem sql_keep {K : PySem.W.Frag} {M : List Addr} {A B : Hp} {a : Addr} {xs : List V} (h : Keep M A B) (n : ∀ x ∈ M, ∃ C dx fs, A x = some (.ins C dx fs)) (hs : SqL K A a xs) : SqL K B a xs := by
  have ne : ∀ {o : HO}, A a = some o → (∀ C dx fs, o ≠ .ins C dx fs) → a ∉ M := fun e no z => by
    obtain ⟨C, dx, fs, e'⟩ := n a z
    rw [e] at e'
    cases e'
    exact no _ _ _ rfl
  rcases hs with (e | ⟨z, e⟩) | e
  · exact .inl (.inl (h a _ (ne e (fun _ _ _ z => nomatch z)) e))
  · exact .inl (.inr ⟨z, h a _ (ne e (fun _ _ _ z => nomatch z)) e⟩)
  · exact .inr e
theorem op_inK {X : Cx} {K : PySem.W.Frag} (h : X.K = K) : OpR X (compareOp .In) (rIn K false) := by subst h; exact op_in_seq
theorem op_ninK {X : Cx} {K : PySem.W.Frag} (h : X.K = K) : OpR X (compareOp .NotIn) (rIn K true) := by subst h; exact op_notIn_seq
/-- i in (j, k), i not in (j, k) -/
theorem ev_in2 {K : PySem.W.Frag} {te : TE} {σ : L2.St} {H : Hp} {n i j : Int} {neg : Bool} (h : EvV te σ H (.int n)) : EvV (tOp (rIn K neg) te (tTup (tCons (tC (.int i)) (tCons (tC (.int j)) tNil)))) σ H (.bl (if neg then !inV (.int n) [.int i, .int j] else inV (.int n) [.int i, .int j])) := fun H1 Q s1 q =>
  h H1 _ s1 fun H2 s2 => ⟨(by show 2 ≤ sizeLine; decide), fun p np => ⟨p, _, rfl, .inr (.inl (.inl upd_same)), rfl, rfl, q _ (s2.trans (same_upd np))⟩⟩
theorem inV2 (n i j : Int) : inV (.int n) [.int i, .int j] = (decide (i = n) || (decide (j = n) || false)) := by
  show (eqV (.int i) (.int n) || (eqV (.int j) (.int n) || false)) = _
  rfl
/-! ### a dict that holds a writer -/
def nineKV (p : Addr) (v : V) (s f : Addr) (e : Bool) (w : Addr) : List (Key × V) := [(TKey "writer", .ref p), (TKey "plan", v), (TKey "signs", .ref s), (TKey "figures", .ref f), (TKey "over", .bl e), (TKey "shown", .ref w)]
section
variable {p s f w s' f' : Addr} {v : V} {e e' : Bool}
theorem nv_writer : valV (nineKV p v s f e w) (TKey "writer") = some (.ref p) := by kernel_rfl
theorem nv_plan : valV (nineKV p v s f e w) (TKey "plan") = some v := by kernel_rfl
theorem nv_signs : valV (nineKV p v s f e w) (TKey "signs") = some (.ref s) := by kernel_rfl
theorem nv_figures : valV (nineKV p v s f e w) (TKey "figures") = some (.ref f) := by kernel_rfl
theorem nv_over : valV (nineKV p v s f e w) (TKey "over") = some (.bl e) := by kernel_rfl
theorem nv_shown : valV (nineKV p v s f e w) (TKey "shown") = some (.ref w) := by kernel_rfl
theorem nv_psigns : putK (nineKV p v s f e w) (TKey "signs") (.ref s') = nineKV p v s' f e w := by kernel_rfl
theorem nv_pfigures : putK (nineKV p v s f e w) (TKey "figures") (.ref f') = nineKV p v s f' e w := by kernel_rfl
theorem nv_pover : putK (nineKV p v s f e w) (TKey "over") (.bl e') = nineKV p v s f e' w := by kernel_rfl
theorem nv_merge : mergeK [] (nineKV p v s f e w) = nineKV p v s f e w := by kernel_rfl
theorem nv_len : (nineKV p v s f e w).length ≤ 1000 := by show 6 ≤ 1000; omega
end
/-- what is told by now -/
def toldOf (s : S3) (e : Bool) : List Int := if e then figsIn s else sureOf s
/-- one of the dicts: M, what may change -/
structure One9 (K : PySem.W.Frag) (C : Addr) (M : List Addr) (H : Hp) (a p w : Addr) (cs : List Int) (g : Int) (ss : List Int) (e : Bool) (n : Nat) : Prop where
  ms : ∀ x ∈ [a, p, w], x ∈ M
  dic : ∃ v s f, H a = some (.dK (nineKV p v s f e w)) ∧ Dp K (imm M H) v (planD cs g) ∧ imm M H s = some (.lst (ss.map V.int)) ∧ imm M H f = some (.lst ((toldOf (textS cs g ss) e).map V.int))
  wr : ∃ l, l ∉ M ∧ WrG K C H p l cs g ss (toldOf (textS cs g ss) e) e
  sh : ∃ xs, H w = some (.lst xs) ∧ Pairs K (imm M H) xs ∧ xs.length ≤ n
section
variable {K : PySem.W.Frag} {C : Addr} {M N : List Addr} {H H' : Hp} {a p w q : Addr} {cs ss : List Int} {g : Int} {e : Bool} {n : Nat}
theorem One9.keep (h : One9 K C M H a p w cs g ss e n) (k : Keep N H H') (hN : ∀ x ∈ N, x ∈ M) (nt : NoTup N H) (hd : ∀ x ∈ [a, p, w], x ∉ N) : One9 K C M H' a p w cs g ss e n := by
  obtain ⟨v, s, f, ea, d1, d2, d3⟩ := h.dic
  obtain ⟨l, hl, R⟩ := h.wr
  obtain ⟨xs, ex, px, lx⟩ := h.sh
  have si := imm_keep k hN
  exact ⟨h.ms, ⟨v, s, f, k a _ (hd a (by simp)) ea, dp_same si _ _ d1, si _ _ d2, si _ _ d3⟩, ⟨l, hl, R.keep k (hd p (by simp)) (fun z => hl (hN l z)) nt⟩, ⟨xs, k w _ (hd w (by simp)) ex, px.same si, lx⟩⟩
theorem One9.same (h : One9 K C M H a p w cs g ss e n) (s : Same H H') : One9 K C M H' a p w cs g ss e n :=
  h.keep (N := []) (Same.keep s) (fun _ z => nomatch z) (fun _ z => nomatch z) (fun _ _ z => nomatch z)
theorem One9.live (h : One9 K C M H a p w cs g ss e n) : Live [a, p, w] H := fun x hx => by
  obtain ⟨v, s, f, ea, _⟩ := h.dic
  obtain ⟨l, hl, R⟩ := h.wr
  obtain ⟨dx, S, P, e2, _⟩ := R.at_
  obtain ⟨xs, ex, _⟩ := h.sh
  simp only [List.mem_cons, List.not_mem_nil, or_false] at hx
  rcases hx with rfl | rfl | rfl
  · exact ⟨_, ea, nt_dk _⟩
  · exact ⟨_, e2, nt_ins _ _ _⟩
  · exact ⟨_, ex, nt_lst _⟩
theorem One9.ne (h : One9 K C M H a p w cs g ss e n) : a ≠ p ∧ a ≠ w ∧ p ≠ w := by
  obtain ⟨v, s, f, ea, _⟩ := h.dic
  obtain ⟨l, hl, R⟩ := h.wr
  obtain ⟨dx, S, P, e2, _⟩ := R.at_
  obtain ⟨xs, ex, _⟩ := h.sh
  refine ⟨fun z => ?_, fun z => ?_, fun z => ?_⟩
  · rw [z, e2] at ea
    cases ea
  · rw [z, ex] at ea
    cases ea
  · rw [z, ex] at e2
    cases e2
/-- one more that may change -/
theorem One9.more (h : One9 K C M H a p w cs g ss e n) (s : Same H H') (hq : H q = none) : One9 K C (q :: M) H' a p w cs g ss e n := by
  obtain ⟨v, t, f, ea, d1, d2, d3⟩ := h.dic
  obtain ⟨l, hl, R⟩ := h.wr
  obtain ⟨xs, ex, px, lx⟩ := h.sh
  have si := imm_more (M := M) s hq
  exact ⟨fun x hx => List.mem_cons_of_mem _ (h.ms x hx), ⟨v, t, f, s _ _ ea, dp_same si _ _ d1, si _ _ d2, si _ _ d3⟩, ⟨l, fun z => by
    rcases List.mem_cons.mp z with z | z
    · rw [← z, R.fg] at hq
      cases hq
    · exact hl z, R.same s⟩, ⟨xs, s _ _ ex, px.same si, lx⟩⟩
end
theorem keep_free {M : List Addr} {A B : Hp} {x : Addr} (k : Keep M A B) (hM : ∀ y ∈ M, ∃ o, B y = some o) (h : B x = none) : A x = none := by
  cases e : A x with
  | none => rfl
  | some o =>
    by_cases z : x ∈ M
    · obtain ⟨o', e'⟩ := hM x z
      rw [h] at e'
      cases e'
    · rw [k x o z e] at h
      cases h
/-- what stands while one is changed, from H0 on -/
structure B9 (K : PySem.W.Frag) (C : Addr) (H0 Hc : Hp) (a p l w : Addr) (kv : List (Key × V)) (xs : List V) (cs : List Int) (g : Int) (ss fs : List Int) (e : Bool) : Prop where
  kp : Keep [a, p, w] H0 Hc
  ea : Hc a = some (.dK kv)
  ew : Hc w = some (.lst xs)
  wr : WrG K C Hc p l cs g ss fs e
section
variable {K : PySem.W.Frag} {C : Addr} {H0 Hc H' : Hp} {a p l w x : Addr} {kv kv' : List (Key × V)} {xs xs' : List V} {cs ss fs : List Int} {g : Int} {e : Bool}
theorem B9.same (h : B9 K C H0 Hc a p l w kv xs cs g ss fs e) (s : Same Hc H') : B9 K C H0 H' a p l w kv xs cs g ss fs e := ⟨h.kp.trans (Same.keep s), s _ _ h.ea, s _ _ h.ew, h.wr.same s⟩
theorem B9.all (h : B9 K C H0 Hc a p l w kv xs cs g ss fs e) : ∀ y ∈ [a, p, w], ∃ o, Hc y = some o := fun y hy => by
  obtain ⟨dx, S, P, e2, _⟩ := h.wr.at_
  simp only [List.mem_cons, List.not_mem_nil, or_false] at hy
  rcases hy with rfl | rfl | rfl
  · exact ⟨_, h.ea⟩
  · exact ⟨_, e2⟩
  · exact ⟨_, h.ew⟩
theorem B9.free (h : B9 K C H0 Hc a p l w kv xs cs g ss fs e) (hx : Hc x = none) : H0 x = none := keep_free h.kp h.all hx
theorem B9.mut (h : B9 K C H0 Hc a p l w kv xs cs g ss fs e) {ys : List V} {o : HO} (hx : Hc x = some (.lst ys)) (n0 : H0 x = none) (n : x ≠ a ∧ x ≠ p ∧ x ≠ w) (nl : x ≠ l) : B9 K C H0 (upd Hc x o) a p l w kv xs cs g ss fs e := by
  have k : Keep [x] Hc (upd Hc x o) := keep_upd (by simp)
  have nt : NoTup [x] Hc := notup_of fun y hy => by rw [List.mem_singleton.mp hy]; exact ⟨_, hx, nt_lst _⟩
  refine ⟨fun b z nb eb => ?_, k a _ (by simp [n.1.symm]) h.ea, k w _ (by simp [n.2.2.symm]) h.ew, h.wr.keep k (by simp [n.2.1.symm]) (by simp [nl.symm]) nt⟩
  have hb : b ≠ x := fun q => by rw [q, n0] at eb; cases eb
  rw [upd_ne hb]
  exact h.kp b z nb eb
theorem B9.dict (h : B9 K C H0 Hc a p l w kv xs cs g ss fs e) (n : a ≠ p ∧ a ≠ w) : B9 K C H0 (upd Hc a (.dK kv')) a p l w kv' xs cs g ss fs e := by
  have k : Keep [a] Hc (upd Hc a (.dK kv')) := keep_upd (by simp)
  have nt : NoTup [a] Hc := notup_of fun y hy => by rw [List.mem_singleton.mp hy]; exact ⟨_, h.ea, nt_dk _⟩
  have la : l ≠ a := fun z => by
    have := h.wr.fg
    rw [z, h.ea] at this
    cases this
  exact ⟨h.kp.trans (keep_upd (by simp)), upd_same, k w _ (by simp [n.2.symm]) h.ew, h.wr.keep k (by simp [n.1.symm]) (by simp [la]) nt⟩
theorem B9.show_ (h : B9 K C H0 Hc a p l w kv xs cs g ss fs e) (n : a ≠ w ∧ p ≠ w) (nl : l ≠ w) : B9 K C H0 (upd Hc w (.lst xs')) a p l w kv xs' cs g ss fs e := by
  have k : Keep [w] Hc (upd Hc w (.lst xs')) := keep_upd (by simp)
  have nt : NoTup [w] Hc := notup_of fun y hy => by rw [List.mem_singleton.mp hy]; exact ⟨_, h.ew, nt_lst _⟩
  exact ⟨h.kp.trans (keep_upd (by simp)), k a _ (by simp [n.1]) h.ea, upd_same, h.wr.keep k (by simp [n.2]) (by simp [nl]) nt⟩
end
theorem toldOf_few {cs ss : List Int} {g : Int} {e : Bool} (pl : Plan cs g) (tx : Text cs.length ss) : (toldOf (textS cs g ss) e).length ≤ 1500 := by
  have ok := textS_ok pl tx
  cases e with
  | true => show (figsIn _).length ≤ _; rw [figsIn_len]; have := fewK_le ok; omega
  | false => have := sure_len ok.good ok.tn; show (sureOf _).length ≤ _; omega
theorem told_end {cs ss : List Int} {g : Int} (pl : Plan cs g) (tx : Text cs.length ss) : sureOf (textS cs g ss) ++ (figsIn (textS cs g ss)).drop (sureOf (textS cs g ss)).length = figsIn (textS cs g ss) := by
  have gd := (textS_ok pl tx).good
  obtain ⟨r, e⟩ := sure_begins gd gd (within_self _) (figsIn_bits _) (figsIn_within gd)
  rw [e, List.drop_left']
  rfl
end Pl

namespace Pl
open PySem PySem.Spec PyProof.Rows L2
def topS (i : Nat) : Stmt := PySem.Challenge.pw_partline_k10_whole_by_and_by.main.body.getD i (.Pass ⟨0, 0, 0, 0⟩)
abbrev FnP (K : PySem.W.Frag) (x : Str) (st : Stmt) (f : Addr) (fd : FuncData) : Prop := FunD K x x (defArgs st) (defBody st) (defScope st) [] [] f fd
abbrev PP : Program := PySem.Challenge.pw_partline_k10_whole_by_and_by

local macro_rules | `(tactic| walk_at "rd") => `(tactic| simp only [tSeq, tAsg, tRet, tRetN, tIfS, tNext, tDrop, tVar, tC, tOp, tUn, tTest, tB, tAnd, tOr, tNot, tAndV, tOrV, tNotV, tChain, tCons, tNil, tCB, tIf, tCall, tCallS, wipe, tTup, tLst, tSl, tNoPart, tPart, gSub, Evl.tCut, tM1, rLenK, rTupK, rListK, gName, gTup, gCons, gNil, rI, rI0, rU, rEq, rNe, scal, L2.start, List.length_cons, List.length_nil, List.map_cons, List.map_nil, List.append_nil, List.cons_append, List.nil_append, List.replicate, Nat.reduceAdd, Nat.reduceSub, Nat.zero_add, List.cons.injEq,
   List.getElem?_cons_zero, List.getElem?_cons_succ, List.set_cons_zero, List.set_cons_succ, Option.some.injEq, V.int.injEq, V.bl.injEq, V.ref.injEq, V.ty.injEq, V.str.injEq, exists_eq_left', exists_eq_left, exists_eq', exists_eq, exists_and_left, exists_and_right, reduceCtorEq, and_true, true_and, and_assoc, ite_true, ite_false, if_true, if_false, Bool.false_eq_true, false_and, and_false, exists_false, or_false, false_or, Bool.not_true, Bool.not_false])
local macro_rules | `(tactic| walk_at "nx") => `(tactic| (refine hold ?_; walk_at "rd"))

section
variable {P : Program} {w : World} {K : PySem.W.Frag} {mg : Str → Option Value} {base : Heap} {f : Addr} {fd : FuncData}
abbrev s_is_whole : Stmt := topS 8
theorem sc_is_whole : FnScope ["value", "least", "most"] ["value", "least", "most"] (defScope s_is_whole) := ⟨rfl, rfl, rfl, by decide +kernel, rfl, by decide +kernel, by decide +kernel⟩

def sp_is_whole (K : PySem.W.Frag) : Sp := fun vs H Q _ => ∃ (v : V) (d : PyData) (lo hi : Int), vs = [v, .int lo, .int hi] ∧ Dp K H v d ∧ Q (.bl (isWhole d lo hi)) H
theorem ok_is_whole (F : FnP K "is_whole" s_is_whole f fd) (z_type : mg "type" = none) (z_int : mg "int" = none) : FnOk P w K mg base CX0 1 f fd ["value", "least", "most"] (sp_is_whole K) := by
  refine F.ok sc_is_whole (fun vs H Q E h => ?_) (fun cdv A outer s H vs Q E hr h => ?_)
  · obtain ⟨_, _, _, _, rfl, _⟩ := h
    rfl
  · obtain ⟨v, d, lo, hi, rfl, hd, q⟩ := h
    refine ⟨_, PSs.nox (pss_one (ps_ret (pe_and (pe_cmpR op_eqTy (pe_callTy (typeK (K := K) rfl) (by rfl) z_type (by decide +kernel) (pa_cons (pv 0) pa_nil)) (pe_bltn (v := .ty "int") (u := .type "int") (by rfl) z_int (by decide +kernel) rfl) (nomark _)) (pe_one (pe_chain op_le op_le (pv 1) (pv 0) (pv 2)))))), ?_⟩
    walk_at "rd"
    refine ⟨v, d, rfl, hd, _, _, rfl, rfl, tyName_mem d, by decide, _, rfl, ?_⟩
    cases hd with
    | int i =>
      refine ite2 (fun _ => ?_) (fun z => absurd (decide_eq_true rfl) z)
      refine ⟨i, rfl, ?_⟩
      have e : isWhole (.int i) lo hi = (decide (lo ≤ i) && decide (i ≤ hi)) := rfl
      rw [e] at q
      by_cases c : lo ≤ i
      · rw [decide_eq_true c] at q
        rw [decide_eq_true c]
        exact iteT ⟨i, rfl, q⟩
      · rw [decide_eq_false c] at q
        rw [decide_eq_false c]
        exact iteF q
    | _ => exact iteF q
abbrev s_are_whole : Stmt := topS 9
theorem sc_are_whole : FnScope ["values", "least", "most", "value"] ["values", "least", "most"] (defScope s_are_whole) := ⟨rfl, rfl, rfl, by decide +kernel, rfl, by decide +kernel, by decide +kernel⟩

def sp_are_whole (K : PySem.W.Frag) : Sp := fun vs H Q _ => ∃ (a : Addr) (xs : List V) (ds : List PyData) (lo hi : Int), vs = [.ref a, .int lo, .int hi] ∧ (SqL K H a xs ∨ SqT K H a xs) ∧ DpAll K H xs ds ∧ ds.length ≤ 4001 ∧ ∀ H', Same H H' → Q (.bl (areWhole ds lo hi)) H'
theorem ok_are_whole (F : FnP K "are_whole" s_are_whole f fd) (c_is_whole : Cal P w K mg base CX0 1 "is_whole" ["value", "least", "most"] (sp_is_whole K)) (z_all : mg "all" = none) : FnOk P w K mg base CX0 2 f fd ["values", "least", "most"] (sp_are_whole K) := by
  refine F.ok sc_are_whole (fun vs H Q E h => ?_) (fun cdv A outer s H vs Q E hr h => ?_)
  · obtain ⟨_, _, _, _, _, rfl, _⟩ := h
    rfl
  · obtain ⟨a, xs, ds, lo, hi, rfl, hs, hd, hl, q⟩ := h
    rcases hs with hs | hs
    · refine ⟨_, PSs.nox (pss_one (ps_ret (pe_callB (allK (K := K) rfl rfl) (by rfl) z_all (by decide +kernel) (pa_cons (pe_lc (own := [("value", 3)]) (g := gName 3) rfl sc_are_whole.nd (pi_listK (K := K) rfl (pv 0)) (blkOk_by (own := [("value", 3)]) (N := ["values", "least", "most", "value"]) (sc := defScope s_are_whole) (by decide +kernel)) (fun _ _ _ _ _ => pg_name (i := 3) sc_are_whole.nd rfl (Or.inl rfl)) (fun _ _ _ _ _ => pts_nil) (fun _ _ _ _ _ => (pe_f c_is_whole (hr.mono (by decide)) (pa_cons (pv 3) (pa_cons (pv 1) (pa_cons (pv 2) pa_nil)))))) pa_nil)))), ?_⟩
      walk_at "rd"
      refine lc_dpL (fun _ => true) (fun n => .bool (isWhole (ds.getD n .none) lo hi)) (fun R h => ⟨_, rfl, h⟩) hs (by rw [dpa_len hd]; omega) (fun n x H' R _ _ k => yes_t k) (fun n x H' D R e _ hD _ sm k => ?_) (fun D acc H' hD sm e dp => ?_)
      · obtain ⟨d, ed, dx⟩ := dpa_get2 hd e
        walk_at "rd"
        refine ⟨x, d, lo, hi, rfl, dp_same sm _ _ dx, ?_⟩
        have z := k (.bl (isWhole d lo hi)) H' (Same.refl _) (by rw [getD_of ed]; exact .bl _)
        exact z
      · rw [dpa_len hd, filter_yes, range_get ds (fun d => PyData.bool (isWhole d lo hi)) PyData.none] at dp
        have ea : acc = (ds.map fun d => isWhole d lo hi).map V.bl := dpa_bools (by rw [List.map_map]; exact dp)
        refine ⟨D, ds.map fun d => isWhole d lo hi, rfl, .inl (.inl (by rw [e, ea])), ?_⟩
        have ez : (ds.map fun d => isWhole d lo hi).all id = areWhole ds lo hi := by
          unfold areWhole
          rw [List.all_map]
          rfl
        rw [ez]
        exact q H' sm
    · refine ⟨_, PSs.nox (pss_one (ps_ret (pe_callB (allK (K := K) rfl rfl) (by rfl) z_all (by decide +kernel) (pa_cons (pe_lc (own := [("value", 3)]) (g := gName 3) rfl sc_are_whole.nd (pi_tupK (K := K) rfl (pv 0)) (blkOk_by (own := [("value", 3)]) (N := ["values", "least", "most", "value"]) (sc := defScope s_are_whole) (by decide +kernel)) (fun _ _ _ _ _ => pg_name (i := 3) sc_are_whole.nd rfl (Or.inl rfl)) (fun _ _ _ _ _ => pts_nil) (fun _ _ _ _ _ => (pe_f c_is_whole (hr.mono (by decide)) (pa_cons (pv 3) (pa_cons (pv 1) (pa_cons (pv 2) pa_nil)))))) pa_nil)))), ?_⟩
      walk_at "rd"
      refine lc_dpT (fun _ => true) (fun n => .bool (isWhole (ds.getD n .none) lo hi)) (fun R h => ⟨_, rfl, h⟩) hs (by rw [dpa_len hd]; omega) (fun n x H' R _ _ k => yes_t k) (fun n x H' D R e _ hD _ sm k => ?_) (fun D acc H' hD sm e dp => ?_)
      · obtain ⟨d, ed, dx⟩ := dpa_get2 hd e
        walk_at "rd"
        refine ⟨x, d, lo, hi, rfl, dp_same sm _ _ dx, ?_⟩
        have z := k (.bl (isWhole d lo hi)) H' (Same.refl _) (by rw [getD_of ed]; exact .bl _)
        exact z
      · rw [dpa_len hd, filter_yes, range_get ds (fun d => PyData.bool (isWhole d lo hi)) PyData.none] at dp
        have ea : acc = (ds.map fun d => isWhole d lo hi).map V.bl := dpa_bools (by rw [List.map_map]; exact dp)
        refine ⟨D, ds.map fun d => isWhole d lo hi, rfl, .inl (.inl (by rw [e, ea])), ?_⟩
        have ez : (ds.map fun d => isWhole d lo hi).all id = areWhole ds lo hi := by
          unfold areWhole
          rw [List.all_map]
          rfl
        rw [ez]
        exact q H' sm

abbrev s_is_whole_list : Stmt := topS 10
theorem sc_is_whole_list : FnScope ["values", "longest", "least", "most"] ["values", "longest", "least", "most"] (defScope s_is_whole_list) := ⟨rfl, rfl, rfl, by decide +kernel, rfl, by decide +kernel, by decide +kernel⟩

def sp_is_whole_list (K : PySem.W.Frag) : Sp := fun vs H Q _ => ∃ (v : V) (d : PyData) (n : Nat) (lo hi : Int), vs = [v, .int n, .int lo, .int hi] ∧ n ≤ 4000 ∧ Dp K H v d ∧ ∀ H', Same H H' → Q (.bl (isWholeList d n lo hi)) H'
theorem ok_is_whole_list (F : FnP K "is_whole_list" s_is_whole_list f fd) (c_are_whole : Cal P w K mg base CX0 2 "are_whole" ["values", "least", "most"] (sp_are_whole K)) (z_type : mg "type" = none) (z_list : mg "list" = none) (z_len : mg "len" = none) :
    FnOk P w K mg base CX0 3 f fd ["values", "longest", "least", "most"] (sp_is_whole_list K) := by
  refine F.ok sc_is_whole_list (fun vs H Q E h => ?_) (fun cdv A outer s H vs Q E hr h => ?_)
  · obtain ⟨_, _, _, _, _, rfl, _⟩ := h
    rfl
  · obtain ⟨v, d, n, lo, hi, rfl, hn, hd, q⟩ := h
    refine ⟨_, PSs.nox (pss_cons (ps_if (PW.pt (pw_or (pt_cmpR op_neTy (pe_callTy (typeK (K := K) rfl) (by rfl) z_type (by decide +kernel) (pa_cons (pv 0) pa_nil)) (pe_bltn (v := .ty "list") (u := .type "list") (by rfl) z_list (by decide +kernel) rfl) (nomark _)) (pw_or1 (pt_cmpR op_gt (pe_callB (lenK (K := K) rfl) (by rfl) z_len (by decide +kernel) (pa_cons (pv 0) pa_nil)) (pv 1) (nomark _))))) (pss_one (ps_ret pe_bl)) pss_nil)
      (pss_one (ps_ret (pe_f c_are_whole (hr.mono (by decide)) (pa_cons (pv 0) (pa_cons (pv 2) (pa_cons (pv 3) pa_nil))))))), ?_⟩
    walk_at "rd"
    refine ⟨v, d, rfl, hd, _, _, rfl, rfl, tyName_mem d, by decide, _, rfl, ?_⟩
    cases hd with
    | lst hs ha =>
      rename_i a xs ds
      refine iteF ?_
      have hlen := dpa_len ha
      refine ⟨a, rfl, xs, .inl hs, ?_⟩
      refine ite2 (fun c => ?_) (fun c => ?_)
      · have c2 := of_decide_eq_true c
        have e : isWholeList (.list ds) n lo hi = false := by
          show (decide (ds.length ≤ n) && areWhole ds lo hi) = false
          rw [decide_eq_false (by omega)]
          rfl
        rw [e] at q
        exact q _ (Same.refl _)
      · have c2 : ¬ (n : Int) < xs.length := fun z => c (decide_eq_true z)
        have e : isWholeList (.list ds) n lo hi = areWhole ds lo hi := by
          show (decide (ds.length ≤ n) && areWhole ds lo hi) = areWhole ds lo hi
          rw [decide_eq_true (by omega)]
          rfl
        rw [e] at q
        exact ⟨a, xs, ds, lo, hi, rfl, .inl hs, ha, by omega, q⟩
    | _ => exact iteT (q _ (Same.refl _))
end

section
variable {P : Program} {w : World} {K : PySem.W.Frag} {mg : Str → Option Value} {base : Heap} {f : Addr} {fd : FuncData}
abbrev s_need_plan : Stmt := topS 17
theorem sc_need_plan : FnScope ["plan", "counts", "gain"] ["plan"] (defScope s_need_plan) := ⟨rfl, rfl, rfl, by decide +kernel, rfl, by decide +kernel, by decide +kernel⟩

def needPlanF : List PyData → Except Err PyData
  | [d] => if isPlan d then .ok .none else .error .plan
  | _ => .ok .none
abbrev sp_need_plan (K : PySem.W.Frag) : Sp := PSpX K 1 needPlanF
theorem len1 {K : PySem.W.Frag} {n : Nat} {g : List PyData → Except Err PyData} {vs : List V} {H : Hp} {Q : VK} {E : XK} (h : PSpX K n g vs H Q E) : vs.length = n := by
  obtain ⟨ds, hd, hl, _⟩ := h
  rw [dpa_len hd, hl]
/-- the refusal, at a heap that keeps what stood -/
theorem no_plan {K : PySem.W.Frag} {d : PyData} {E : XK} {H : Hp} (h : isPlan d = false) (kE : ∀ e, needPlanF [d] = .error e → ∀ H', Same H H' → E (.ref (errC K e)) none H') {H' : Hp} (s : Same H H') : E (.ref (errC K .plan)) none H' :=
  kE .plan (if_neg (by rw [h]; exact Bool.false_ne_true)) H' s
theorem ok_need_plan (F : FnP K "need_plan" s_need_plan f fd) (c_is_whole : Cal P w K mg base CX0 1 "is_whole" ["value", "least", "most"] (sp_is_whole K)) (c_are_whole : Cal P w K mg base CX0 2 "are_whole" ["values", "least", "most"] (sp_are_whole K))
    (x_BadPlan : Exn K mg .plan) (z_type : mg "type" = none) (z_tuple : mg "tuple" = none) (z_len : mg "len" = none) {u1 u2 u3 u4 : Tok} (g_FEWEST_COUNTS : mg "FEWEST_COUNTS" = some (.int 2 u1)) (g_MOST_COUNTS : mg "MOST_COUNTS" = some (.int 8 u2)) (g_GREATEST_COUNT : mg "GREATEST_COUNT" = some (.int 1000000 u3)) (g_GREATEST_GAIN : mg "GREATEST_GAIN" = some (.int 1000000 u4)) :
    FnOk P w K mg base (L2N.CX P w) 3 f fd ["plan"] (sp_need_plan K) := by
  refine F.ok sc_need_plan (fun vs H Q E h => len1 h) (fun cdv A outer s H vs Q E hr h => ?_)
  obtain ⟨ds, hds, hl, kQ, kE⟩ := h
  obtain ⟨d, rfl⟩ : ∃ d, ds = [d] := match ds, hl with | [d], _ => ⟨d, rfl⟩
  cases hds with
  | cons hd hn =>
  cases hn
  rename_i v
  refine ⟨_, (pss_cons (ps_if (PW.pt (pw_or (pt_cmpR op_neTy (pe_callTy (typeK (K := K) rfl) (by rfl) z_type (by decide +kernel) (pa_cons (pv 0) pa_nil)) (pe_bltn (v := .ty "tuple") (u := .type "tuple") (by rfl) z_tuple (by decide +kernel) rfl) (nomark _)) (pw_or1 (pt_cmpR op_ne (pe_callB (lenK (K := K) rfl) (by rfl) z_len (by decide +kernel) (pa_cons (pv 0) pa_nil)) pe_int (nomark _))))) (pss_one (L2N.ps_raise rfl (L2N.takes_of rfl rfl rfl rfl) (L2N.pmk_own PySem.F.excBase_ValueError x_BadPlan.x x_BadPlan.g x_BadPlan.k (raises_own x_BadPlan.b x_BadPlan.t) rfl))) pss_nil)
      (pss_cons (ps_asg (pv 0) (pg_tupK (K := K) (n := 2) rfl rfl (pgs_cons (pg_name (i := 1) sc_need_plan.nd rfl (.inl rfl)) (pgs_cons (pg_name (i := 2) sc_need_plan.nd rfl (.inl rfl)) pgs_nil))))
      (pss_cons (ps_if (pt_cmpR op_neTy (pe_callTy (typeK (K := K) rfl) (by rfl) z_type (by decide +kernel) (pa_cons (pv 1) pa_nil)) (pe_bltn (v := .ty "tuple") (u := .type "tuple") (by rfl) z_tuple (by decide +kernel) rfl) (nomark _)) (pss_one (L2N.ps_raise rfl (L2N.takes_of rfl rfl rfl rfl) (L2N.pmk_own PySem.F.excBase_ValueError x_BadPlan.x x_BadPlan.g x_BadPlan.k (raises_own x_BadPlan.b x_BadPlan.t) rfl))) pss_nil)
      (pss_cons (ps_if (pt_not (pt_chain op_le op_le (pe_glob (v := .int 2) rfl g_FEWEST_COUNTS ⟨_, rfl⟩) (pe_callB (lenK (K := K) rfl) (by rfl) z_len (by decide +kernel) (pa_cons (pv 1) pa_nil)) (pe_glob (v := .int 8) rfl g_MOST_COUNTS ⟨_, rfl⟩))) (pss_one (L2N.ps_raise rfl (L2N.takes_of rfl rfl rfl rfl) (L2N.pmk_own PySem.F.excBase_ValueError x_BadPlan.x x_BadPlan.g x_BadPlan.k (raises_own x_BadPlan.b x_BadPlan.t) rfl))) pss_nil)
      (pss_cons (ps_if (pt_not (pt_val (pe_f c_are_whole (hr.mono (by decide)) (pa_cons (pv 1) (pa_cons pe_int (pa_cons (pe_glob (v := .int 1000000) rfl g_GREATEST_COUNT ⟨_, rfl⟩) pa_nil)))))) (pss_one (L2N.ps_raise rfl (L2N.takes_of rfl rfl rfl rfl) (L2N.pmk_own PySem.F.excBase_ValueError x_BadPlan.x x_BadPlan.g x_BadPlan.k (raises_own x_BadPlan.b x_BadPlan.t) rfl))) pss_nil)
      (pss_one (ps_if (pt_not (pt_val (pe_f c_is_whole (hr.mono (by decide)) (pa_cons (pv 2) (pa_cons pe_int (pa_cons (pe_glob (v := .int 1000000) rfl g_GREATEST_GAIN ⟨_, rfl⟩) pa_nil)))))) (pss_one (L2N.ps_raise rfl (L2N.takes_of rfl rfl rfl rfl) (L2N.pmk_own PySem.F.excBase_ValueError x_BadPlan.x x_BadPlan.g x_BadPlan.k (raises_own x_BadPlan.b x_BadPlan.t) rfl))) pss_nil))))))), ?_⟩
  walk_at "rd"
  refine ⟨v, d, rfl, hd, _, _, rfl, rfl, tyName_mem d, by decide, _, rfl, ?_⟩
  cases hd with
  | tup hs ha =>
    rename_i a xs ds
    refine iteF ⟨a, rfl, xs, .inr hs, ite2 (fun c => ?_) (fun c => ?_)⟩
    · have hx : ds.length ≠ 2 := fun z => by
        rw [dpa_len ha, z] at c
        exact absurd c (by decide)
      refine no_plan ?_ kE (Same.refl _)
      match ds, hx with
      | [], _ => rfl
      | [_], _ => rfl
      | [_, _], z => exact absurd rfl z
      | _ :: _ :: _ :: _, _ => rfl
    · have hx : ds.length = 2 := by
        rw [dpa_len ha] at c
        simp only [Bool.not_eq_true', decide_eq_false_iff_not, Decidable.not_not] at c
        exact_mod_cast c
      obtain ⟨dc, dg, rfl⟩ : ∃ dc dg, ds = [dc, dg] := match ds, hx with | [dc, dg], _ => ⟨dc, dg, rfl⟩
      cases ha with
      | cons hc hg =>
      cases hg with
      | cons hg hn =>
      cases hn
      rename_i vc vg
      refine ⟨a, rfl, _, hs, rfl, vc, _, rfl, vg, [], rfl, rfl, ?_⟩
      refine ⟨vc, dc, rfl, hc, _, _, rfl, rfl, tyName_mem dc, by decide, _, rfl, ?_⟩
      cases hc with
      | tup hcs hca =>
        rename_i ac cvs cds
        have hlc := dpa_len hca
        refine iteF ⟨ac, rfl, cvs, .inr hcs, ?_⟩
        have hb : isPlan (.tuple [.tuple cds, dg]) = (decide (2 ≤ cds.length) && decide (cds.length ≤ 8) && areWhole cds 1 1000000 && isWhole dg 0 1000000) := rfl
        refine ite2 (fun c2 => ?_) (fun c2 => ?_)
        · refine ite2 (fun c8 => ?_) (fun c8 => ?_)
          · refine no_plan ?_ kE (Same.refl _)
            simp only [Bool.not_eq_true', decide_eq_false_iff_not] at c8
            rw [hb, decide_eq_false (show ¬ cds.length ≤ 8 by omega), Bool.and_false]
            rfl
          · simp only [Bool.not_eq_true', decide_eq_false_iff_not, Decidable.not_not] at c8
            simp only [decide_eq_true_eq] at c2
            rw [decide_eq_true (show 2 ≤ cds.length by omega), decide_eq_true (show cds.length ≤ 8 by omega)] at hb
            refine ⟨ac, cvs, cds, 1, 1000000, rfl, .inr hcs, hca, by omega, fun H1 s1 => ⟨_, rfl, ?_⟩⟩
            cases ew : areWhole cds 1 1000000 with
            | false =>
              rw [ew] at hb
              exact iteT (no_plan hb kE s1)
            | true =>
              rw [ew] at hb
              refine iteF ⟨vg, dg, 0, 1000000, rfl, dp_same s1 _ _ hg, _, rfl, ?_⟩
              cases eg : isWhole dg 0 1000000 with
              | false =>
                rw [eg] at hb
                exact iteT (no_plan hb kE s1)
              | true =>
                rw [eg] at hb
                exact iteF (kQ .none (if_pos hb) .non H1 s1 .non)
        · refine no_plan ?_ kE (Same.refl _)
          simp only [decide_eq_true_eq] at c2
          rw [hb, decide_eq_false (show ¬ 2 ≤ cds.length by omega)]
          rfl
      | _ => exact iteT (no_plan rfl kE (Same.refl _))
  | _ => exact iteT (no_plan rfl kE (Same.refl _))
abbrev s__last_sign : Stmt := topS 22
theorem sc__last_sign : FnScope ["plan"] ["plan"] (defScope s__last_sign) := ⟨rfl, rfl, rfl, by decide +kernel, rfl, by decide +kernel, by decide +kernel⟩

def sp_last_sign (K : PySem.W.Frag) : Sp := fun vs H Q _ => ∃ (v : V) (cs : List Int) (g : Int), vs = [v] ∧ Dp K H v (planD cs g) ∧ Q (.int ((cs.length : Int) - 1)) H
theorem ok_last_sign (F : FnP K "_last_sign" s__last_sign f fd) (z_len : mg "len" = none) : FnOk P w K mg base CX0 1 f fd ["plan"] (sp_last_sign K) := by
  refine F.ok sc__last_sign (fun vs H Q E h => ?_) (fun cdv A outer s H vs Q E hr h => ?_)
  · obtain ⟨_, _, _, rfl, _⟩ := h
    rfl
  · obtain ⟨v, cs, g, rfl, hd, q⟩ := h
    refine ⟨_, PSs.nox (pss_one (ps_ret (pe_op op_sub (pe_callB (lenK (K := K) rfl) (by rfl) z_len (by decide +kernel) (pa_cons (pe_ix (ix_tupK (K := K) rfl) (pv 0) pe_int (fun _ _ => rfl)) pa_nil)) pe_int))), ?_⟩
    walk_at "rd"
    obtain ⟨a, c, rfl, h1, h2⟩ := plan_at hd
    refine ⟨a, _, 0, .ref c, rfl, rfl, h1, rfl, c, rfl, _, .inr h2, ?_⟩
    rw [List.length_map]
    exact q
theorem needPlan_yes {d dn : PyData} (e : needPlanF [d] = .ok dn) : isPlan d = true := by
  cases h : isPlan d with
  | true => rfl
  | false =>
    have z : (if isPlan d = true then Except.ok PyData.none else Except.error Err.plan : Except Err PyData) = .ok dn := e
    rw [if_neg (by rw [h]; exact Bool.false_ne_true)] at z
    cases z
theorem needPlan_no {d : PyData} {er : Err} (e : needPlanF [d] = .error er) : er = .plan ∧ isPlan d = false := by
  have z : (if isPlan d = true then Except.ok PyData.none else Except.error Err.plan : Except Err PyData) = .error er := e
  cases h : isPlan d with
  | true =>
    rw [if_pos h] at z
    cases z
  | false =>
    rw [if_neg (by rw [h]; exact Bool.false_ne_true)] at z
    cases z
    exact ⟨rfl, rfl⟩
abbrev s__need_sign : Stmt := topS 21
theorem sc__need_sign : FnScope ["plan", "sign"] ["plan", "sign"] (defScope s__need_sign) := ⟨rfl, rfl, rfl, by decide +kernel, rfl, by decide +kernel, by decide +kernel⟩

/-- a sign of the plan, asked behind the plan itself -/
def signF (g : List Int → Int → Int → PyData) : List PyData → Except Err PyData
  | [d, x] => if isPlan d then (if isWhole x 0 (((countsOf d).length : Int) - 1) then .ok (g (countsOf d) (gainOf d) (toI x)) else .error .sign) else .error .plan
  | _ => .ok .none
theorem sign_noplan {k : List Int → Int → Int → PyData} {d x : PyData} (h : isPlan d = false) : signF k [d, x] = .error .plan := if_neg (by rw [h]; exact Bool.false_ne_true)
theorem sign_no {k : List Int → Int → Int → PyData} {cs : List Int} {g : Int} {x : PyData} (p : Plan cs g) (h : isWhole x 0 ((cs.length : Int) - 1) = false) : signF k [planD cs g, x] = .error .sign := by
  show (if isPlan (planD cs g) = true then _ else _) = _
  rw [if_pos (isPlan_of p), counts_planD, if_neg (by rw [h]; exact Bool.false_ne_true)]
theorem sign_yes {k : List Int → Int → Int → PyData} {cs : List Int} {g : Int} {x : PyData} (p : Plan cs g) (h : isWhole x 0 ((cs.length : Int) - 1) = true) : signF k [planD cs g, x] = .ok (k cs g (toI x)) := by
  show (if isPlan (planD cs g) = true then _ else _) = _
  rw [if_pos (isPlan_of p), counts_planD, if_pos h, gain_planD]
theorem sign_plan {k : List Int → Int → Int → PyData} {d x r : PyData} (e : signF k [d, x] = .ok r) : ∃ cs g s, d = planD cs g ∧ Plan cs g ∧ x = .int s ∧ 0 ≤ s ∧ s < cs.length ∧ r = k cs g s := by
  cases h : isPlan d with
  | false =>
    rw [sign_noplan h] at e
    cases e
  | true =>
    obtain ⟨cs, g, rfl, pl⟩ := isPlan_ok h
    cases hx : isWhole x 0 ((cs.length : Int) - 1) with
    | false =>
      rw [sign_no pl hx] at e
      cases e
    | true =>
      rw [sign_yes pl hx] at e
      cases e
      obtain ⟨i, rfl, a, b⟩ := isWhole_ok hx
      exact ⟨cs, g, i, rfl, pl, rfl, a, by omega, rfl⟩
theorem sign_err {k k' : List Int → Int → Int → PyData} {d x : PyData} {er : Err} (e : signF k [d, x] = .error er) : signF k' [d, x] = .error er := by
  cases h : isPlan d with
  | false =>
    rw [sign_noplan h] at e ⊢
    exact e
  | true =>
    obtain ⟨cs, g, rfl, pl⟩ := isPlan_ok h
    cases hx : isWhole x 0 ((cs.length : Int) - 1) with
    | false =>
      rw [sign_no pl hx] at e ⊢
      exact e
    | true =>
      rw [sign_yes pl hx] at e
      cases e
abbrev sp_need_sign (K : PySem.W.Frag) : Sp := PSpX K 2 (signF fun _ _ _ => .none)
theorem ok_need_sign (F : FnP K "_need_sign" s__need_sign f fd) (c_need_plan : Cal P w K mg base (L2N.CX P w) 3 "need_plan" ["plan"] (sp_need_plan K)) (c_is_whole : Cal P w K mg base CX0 1 "is_whole" ["value", "least", "most"] (sp_is_whole K))
    (c__last_sign : Cal P w K mg base CX0 1 "_last_sign" ["plan"] (sp_last_sign K)) (x_BadSign : Exn K mg .sign) : FnOk P w K mg base (L2N.CX P w) 4 f fd ["plan", "sign"] (sp_need_sign K) := by
  refine F.ok sc__need_sign (fun vs H Q E h => len1 h) (fun cdv A outer s H vs Q E hr h => ?_)
  obtain ⟨ds, hds, hl, kQ, kE⟩ := h
  obtain ⟨d, x, rfl⟩ : ∃ d x, ds = [d, x] := match ds, hl with | [d, x], _ => ⟨d, x, rfl⟩
  cases hds with
  | cons hd hn =>
  cases hn with
  | cons hx hn =>
  cases hn
  rename_i v u
  refine ⟨_, (pss_cons (ps_expr (pe_fX c_need_plan (hr.mono (by decide)) (L2N.takes_of rfl rfl rfl rfl) (pa_cons (pv 0) pa_nil)))
      (pss_one (ps_if (pt_not (pt_val (pe_f c_is_whole (hr.mono (by decide)) (pa_cons (pv 1) (pa_cons pe_int (pa_cons (pe_f c__last_sign (hr.mono (by decide)) (pa_cons (pv 0) pa_nil)) pa_nil)))))) (pss_one (L2N.ps_raise rfl (L2N.takes_of rfl rfl rfl rfl) (L2N.pmk_own PySem.F.excBase_ValueError x_BadSign.x x_BadSign.g x_BadSign.k (raises_own x_BadSign.b x_BadSign.t) rfl))) pss_nil))), ?_⟩
  walk_at "rd"
  refine ⟨[d], .cons hd .nil, rfl, fun dn e v' H1 s1 _ => ?_, fun e he H1 s1 => ?_⟩
  · obtain ⟨cs, g, rfl, pl⟩ := isPlan_ok (needPlan_yes e)
    refine ⟨v, cs, g, rfl, dp_same s1 _ _ hd, u, x, 0, _, rfl, dp_same s1 _ _ hx, _, rfl, ?_⟩
    cases ew : isWhole x 0 ((cs.length : Int) - 1) with
    | false => exact iteT (kE .sign (sign_no pl ew) H1 s1)
    | true => exact iteF (kQ _ (sign_yes pl ew) .non H1 s1 .non)
  · obtain ⟨rfl, hp⟩ := needPlan_no he
    exact kE .plan (sign_noplan hp) H1 s1
abbrev s_share : Stmt := topS 19
theorem sc_share : FnScope ["plan", "sign", "counts"] ["plan", "sign"] (defScope s_share) := ⟨rfl, rfl, rfl, by decide +kernel, rfl, by decide +kernel, by decide +kernel⟩

def shareD (cs : List Int) (_ s : Int) : PyData := .tuple [.int (belowOf cs s), .int (nth cs s), .int cs.sum]
abbrev sp_share (K : PySem.W.Frag) : Sp := PSpX K 2 (signF shareD)
theorem ok_share (F : FnP K "share" s_share f fd) (c__need_sign : Cal P w K mg base (L2N.CX P w) 4 "_need_sign" ["plan", "sign"] (sp_need_sign K)) (z_sum : mg "sum" = none) : FnOk P w K mg base (L2N.CX P w) 5 f fd ["plan", "sign"] (sp_share K) := by
  refine F.ok sc_share (fun vs H Q E h => len1 h) (fun cdv A outer s H vs Q E hr h => ?_)
  obtain ⟨ds, hds, hl, kQ, kE⟩ := h
  obtain ⟨d, x, rfl⟩ : ∃ d x, ds = [d, x] := match ds, hl with | [d, x], _ => ⟨d, x, rfl⟩
  cases hds with
  | cons hd hn =>
  cases hn with
  | cons hx hn =>
  cases hn
  rename_i v u
  refine ⟨_, (pss_cons (ps_expr (pe_fX c__need_sign (hr.mono (by decide)) (L2N.takes_of rfl rfl rfl rfl) (pa_cons (pv 0) (pa_cons (pv 1) pa_nil))))
      (pss_cons (ps_set (i := 2) sc_share.nd rfl (Or.inl rfl) (pe_ix (ix_tupK (K := K) rfl) (pv 0) pe_int (fun _ _ => rfl)))
      (pss_one (ps_ret (pe_tup (pa_cons (pe_callB (sumTK (K := K) rfl rfl) (by rfl) z_sum (by decide +kernel) (pa_cons (pe_slice (sl_tupK (K := K) rfl) (pv 2) po_none (po_some (pv 1))) pa_nil)) (pa_cons (pe_ix (ix_tupK (K := K) rfl) (pv 2) (pv 1) (fun _ _ => rfl)) (pa_cons (pe_callB (sumTK (K := K) rfl rfl) (by rfl) z_sum (by decide +kernel) (pa_cons (pv 2) pa_nil)) pa_nil)))))))), ?_⟩
  walk_at "rd"
  refine ⟨[d, x], .cons hd (.cons hx .nil), rfl, fun dn e v' H1 s1 _ => ?_, fun e he H1 s1 => kE e (sign_err he) H1 s1⟩
  obtain ⟨cs, g, s, rfl, pl, rfl, h0, h1, rfl⟩ := sign_plan e
  cases dp_int hx
  obtain ⟨a, c, rfl, ha, hc⟩ := plan_at (dp_same s1 _ _ hd)
  refine ⟨a, _, 0, .ref c, rfl, rfl, ha, rfl, s, rfl, slT_take hc h0 (by rw [List.length_map]; omega) fun p H2 s2 h2 => ?_⟩
  rw [← List.map_take] at h2
  refine ⟨p, cs.take s.toNat, rfl, h2, c, _, s, _, rfl, rfl, same_t s2 hc, at_nth h0 h1, c, cs, rfl, same_t s2 hc, by decide, fun t ht => ?_⟩
  refine kQ _ (sign_yes pl (by rw [isWhole_int, decide_eq_true h0, decide_eq_true (by omega)]; rfl)) _ _ ((s1.trans s2).trans (same_upd ht)) ?_
  exact .tup (.inl (.inl upd_same)) (.cons (.int _) (.cons (.int _) (.cons (.int _) .nil)))
abbrev s_behind : Stmt := topS 20
theorem sc_behind : FnScope ["plan", "sign", "counts", "gain", "grown"] ["plan", "sign"] (defScope s_behind) := ⟨rfl, rfl, rfl, by decide +kernel, rfl, by decide +kernel, by decide +kernel⟩

def behindD (cs : List Int) (g s : Int) : PyData := planD (grown cs g s) g
theorem grown_eq {cs : List Int} {g s : Int} (h0 : 0 ≤ s) (h1 : s < cs.length) : grown cs g s = cs.take s.toNat ++ [min (nth cs s + g) 1000000] ++ cs.drop (s + 1).toNat := by
  have h : s.toNat < cs.length := by omega
  unfold grown
  rw [List.set_eq_take_append_cons_drop, if_pos h, List.append_assoc]
  rw [show (s + 1).toNat = s.toNat + 1 by omega]
  rfl
abbrev sp_behind (K : PySem.W.Frag) : Sp := PSpX K 2 (signF behindD)
theorem ok_behind (F : FnP K "behind" s_behind f fd) (c__need_sign : Cal P w K mg base (L2N.CX P w) 4 "_need_sign" ["plan", "sign"] (sp_need_sign K)) (z_min : mg "min" = none) {u3 : Tok} (g_GREATEST_COUNT : mg "GREATEST_COUNT" = some (.int 1000000 u3)) : FnOk P w K mg base (L2N.CX P w) 5 f fd ["plan", "sign"] (sp_behind K) := by
  refine F.ok sc_behind (fun vs H Q E h => len1 h) (fun cdv A outer s H vs Q E hr h => ?_)
  obtain ⟨ds, hds, hl, kQ, kE⟩ := h
  obtain ⟨d, x, rfl⟩ : ∃ d x, ds = [d, x] := match ds, hl with | [d, x], _ => ⟨d, x, rfl⟩
  cases hds with
  | cons hd hn =>
  cases hn with
  | cons hx hn =>
  cases hn
  rename_i v u
  refine ⟨_, (pss_cons (ps_expr (pe_fX c__need_sign (hr.mono (by decide)) (L2N.takes_of rfl rfl rfl rfl) (pa_cons (pv 0) (pa_cons (pv 1) pa_nil))))
      (pss_cons (ps_asg (pv 0) (pg_tupK (K := K) (n := 2) rfl rfl (pgs_cons (pg_name (i := 2) sc_behind.nd rfl (.inl rfl)) (pgs_cons (pg_name (i := 3) sc_behind.nd rfl (.inl rfl)) pgs_nil))))
      (pss_cons (ps_set (i := 4) sc_behind.nd rfl (Or.inl rfl) (pe_callB (call_min2 rfl) (by rfl) z_min (by decide +kernel) (pa_cons (pe_op op_add (pe_ix (ix_tupK (K := K) rfl) (pv 2) (pv 1) (fun _ _ => rfl)) (pv 3)) (pa_cons (pe_glob (v := .int 1000000) rfl g_GREATEST_COUNT ⟨_, rfl⟩) pa_nil))))
      (pss_one (ps_ret (pe_tup (pa_cons (pe_op (op_catK (K := K) rfl) (pe_op (op_catK (K := K) rfl) (pe_slice (sl_tupK (K := K) rfl) (pv 2) po_none (po_some (pv 1))) (pe_tup (pa_cons (pv 4) pa_nil))) (pe_slice (sl_tupK (K := K) rfl) (pv 2) (po_some (pe_op op_add (pv 1) pe_int)) po_none)) (pa_cons (pv 3) pa_nil)))))))), ?_⟩
  walk_at "rd"
  refine ⟨[d, x], .cons hd (.cons hx .nil), rfl, fun dn e v' H1 s1 _ => ?_, fun e he H1 s1 => kE e (sign_err he) H1 s1⟩
  obtain ⟨cs, g, s, rfl, pl, rfl, h0, h1, rfl⟩ := sign_plan e
  cases dp_int hx
  obtain ⟨a, c, rfl, ha, hc⟩ := plan_at (dp_same s1 _ _ hd)
  refine ⟨a, rfl, _, ha, rfl, .ref c, _, rfl, .int g, [], rfl, rfl, ?_⟩
  refine ⟨c, _, s, _, rfl, rfl, hc, at_nth h0 h1, _, rfl, g, rfl, s, rfl, ?_⟩
  have em : (if (1000000 : Int) < nth cs s + g then (1000000 : Int) else nth cs s + g) = min (nth cs s + g) 1000000 := by
    by_cases z : (1000000 : Int) < nth cs s + g
    · rw [if_pos z]; omega
    · rw [if_neg z]; omega
  rw [em]
  have hl0 : (cs.map V.int).length = cs.length := List.length_map ..
  have l8 := pl.eight
  refine slT_take hc h0 (by rw [hl0]; omega) fun p1 H2 s2 h2 => ?_
  refine ⟨by decide, fun p2 n2 => ?_⟩
  refine catT (same_t (same_upd n2) h2) (.inl (.inl upd_same)) (by rw [List.length_take]; show _ + 1 ≤ 100000; omega) fun p3 H3 s3 h3 => ?_
  refine ⟨_, rfl, slT_drop (same_t ((s2.trans (same_upd n2)).trans s3) hc) (by omega) (by rw [hl0]; omega) fun p4 H4 s4 h4 => ?_⟩
  refine catT (same_t s4 h3) h4 (by rw [List.length_append, List.length_take, List.length_drop]; show _ + 1 + _ ≤ 100000; omega) fun p5 H5 s5 h5 => ?_
  refine ⟨by decide, fun t ht => ?_⟩
  have sm : Same H1 H5 := (((s2.trans (same_upd n2)).trans s3).trans s4).trans s5
  have e5 : List.take s.toNat (cs.map V.int) ++ [V.int (min (nth cs s + g) 1000000)] ++ List.drop (s + 1).toNat (cs.map V.int) = (grown cs g s).map V.int := by
    rw [grown_eq h0 h1, List.map_append, List.map_append, List.map_take, List.map_drop]
    rfl
  rw [e5] at h5
  refine kQ _ (sign_yes pl (by rw [isWhole_int, decide_eq_true h0, decide_eq_true (by omega)]; rfl)) _ _ ((s1.trans sm).trans (same_upd ht)) ?_
  exact plan_dp (.inl (.inl upd_same)) (same_t (same_upd ht) h5)
abbrev s_need_signs : Stmt := topS 18
theorem sc_need_signs : FnScope ["plan", "signs"] ["plan", "signs"] (defScope s_need_signs) := ⟨rfl, rfl, rfl, by decide +kernel, rfl, by decide +kernel, by decide +kernel⟩

def needSignsF : List PyData → Except Err PyData
  | [d, x] => if isPlan d then (if isWholeList x 60 0 (((countsOf d).length : Int) - 1) then .ok .none else .error .sign) else .error .plan
  | _ => .ok .none
abbrev sp_need_signs (K : PySem.W.Frag) : Sp := PSpX K 2 needSignsF
theorem signs_noplan {d x : PyData} (h : isPlan d = false) : needSignsF [d, x] = .error .plan := if_neg (by rw [h]; exact Bool.false_ne_true)
theorem signs_no {cs : List Int} {g : Int} {x : PyData} (p : Plan cs g) (h : isWholeList x 60 0 ((cs.length : Int) - 1) = false) : needSignsF [planD cs g, x] = .error .sign := by
  show (if isPlan (planD cs g) = true then _ else _) = _
  rw [if_pos (isPlan_of p), counts_planD, if_neg (by rw [h]; exact Bool.false_ne_true)]
theorem signs_yes {cs : List Int} {g : Int} {x : PyData} (p : Plan cs g) (h : isWholeList x 60 0 ((cs.length : Int) - 1) = true) : needSignsF [planD cs g, x] = .ok .none := by
  show (if isPlan (planD cs g) = true then _ else _) = _
  rw [if_pos (isPlan_of p), counts_planD, if_pos h]
theorem ok_need_signs (F : FnP K "need_signs" s_need_signs f fd) (c_need_plan : Cal P w K mg base (L2N.CX P w) 3 "need_plan" ["plan"] (sp_need_plan K))
    (c_is_whole_list : Cal P w K mg base CX0 3 "is_whole_list" ["values", "longest", "least", "most"] (sp_is_whole_list K)) (c__last_sign : Cal P w K mg base CX0 1 "_last_sign" ["plan"] (sp_last_sign K)) (x_BadSign : Exn K mg .sign)
    {u4 : Tok} (g_LONGEST_TEXT : mg "LONGEST_TEXT" = some (.int 60 u4)) : FnOk P w K mg base (L2N.CX P w) 4 f fd ["plan", "signs"] (sp_need_signs K) := by
  refine F.ok sc_need_signs (fun vs H Q E h => len1 h) (fun cdv A outer s H vs Q E hr h => ?_)
  obtain ⟨ds, hds, hl, kQ, kE⟩ := h
  obtain ⟨d, x, rfl⟩ : ∃ d x, ds = [d, x] := match ds, hl with | [d, x], _ => ⟨d, x, rfl⟩
  cases hds with
  | cons hd hn =>
  cases hn with
  | cons hx hn =>
  cases hn
  rename_i v u
  refine ⟨_, (pss_cons (ps_expr (pe_fX c_need_plan (hr.mono (by decide)) (L2N.takes_of rfl rfl rfl rfl) (pa_cons (pv 0) pa_nil)))
      (pss_one (ps_if (pt_not (pt_val (pe_f c_is_whole_list (hr.mono (by decide)) (pa_cons (pv 1) (pa_cons (pe_glob (v := .int 60) rfl g_LONGEST_TEXT ⟨_, rfl⟩) (pa_cons pe_int (pa_cons (pe_f c__last_sign (hr.mono (by decide)) (pa_cons (pv 0) pa_nil)) pa_nil))))))) (pss_one (L2N.ps_raise rfl (L2N.takes_of rfl rfl rfl rfl) (L2N.pmk_own PySem.F.excBase_ValueError x_BadSign.x x_BadSign.g x_BadSign.k (raises_own x_BadSign.b x_BadSign.t) rfl))) pss_nil))), ?_⟩
  walk_at "rd"
  refine ⟨[d], .cons hd .nil, rfl, fun dn e v' H1 s1 _ => ?_, fun e he H1 s1 => ?_⟩
  · obtain ⟨cs, g, rfl, pl⟩ := isPlan_ok (needPlan_yes e)
    refine ⟨v, cs, g, rfl, dp_same s1 _ _ hd, u, x, 60, 0, _, rfl, by decide, dp_same s1 _ _ hx, fun H2 s2 => ⟨_, rfl, ?_⟩⟩
    cases ew : isWholeList x 60 0 ((cs.length : Int) - 1) with
    | false => exact iteT (kE .sign (signs_no pl ew) H2 (s1.trans s2))
    | true => exact iteF (kQ _ (signs_yes pl ew) .non H2 (s1.trans s2) .non)
  · obtain ⟨rfl, hp⟩ := needPlan_no he
    exact kE .plan (signs_noplan hp) H1 s1
end

section
variable {P : Program} {w : World} {K : PySem.W.Frag} {mg : Str → Option Value} {base : Heap} {f : Addr} {fd : FuncData}
abbrev s__law_cell_at : Stmt := topS 46
theorem sc__law_cell_at : FnScope ["_law_script", "_law_k"] ["_law_script", "_law_k"] (defScope s__law_cell_at) := ⟨rfl, rfl, rfl, by decide +kernel, rfl, by decide +kernel, by decide +kernel⟩

def sp_cell_at (K : PySem.W.Frag) : Sp := fun vs H Q _ => ∃ (a : Addr) (ns : List Int) (k : Nat), vs = [.ref a, .int k] ∧ SqL K H a (ns.map V.int) ∧ Q (.int (cellAt ns k)) H
theorem ok_cell_at (F : FnP K "_law_cell_at" s__law_cell_at f fd) (z_len : mg "len" = none) : FnOk P w K mg base CX0 1 f fd ["_law_script", "_law_k"] (sp_cell_at K) := by
  refine F.ok sc__law_cell_at (fun vs H Q E h => ?_) (fun cdv A outer s H vs Q E hr h => ?_)
  · obtain ⟨_, _, _, rfl, _⟩ := h
    rfl
  · obtain ⟨a, ns, k, rfl, hs, q⟩ := h
    refine ⟨_, PSs.nox (pss_cons (ps_if (pt_cmpR op_lt (pv 1) (pe_callB (lenK (K := K) rfl) (by rfl) z_len (by decide +kernel) (pa_cons (pv 0) pa_nil)) (nomark _)) (pss_one (ps_ret (pe_op op_add (pe_ix (ix_listK (K := K) rfl) (pv 0) (pv 1) (fun _ _ => rfl)) (pe_op op_mul (pe_op op_mod (pe_ix (ix_listK (K := K) rfl) (pv 0) (pv 1) (fun _ _ => rfl)) pe_int) pe_int)))) pss_nil)
      (pss_one (ps_ret pe_int))), ?_⟩
    walk_at "rd"
    refine ⟨_, .inl hs, ?_⟩
    rw [List.length_map]
    unfold cellAt at q
    refine ite2 (fun c => ?_) (fun c => ?_)
    · have hk : k < ns.length := by simpa using c
      rw [List.getElem?_eq_getElem hk] at q
      have hat : atI (ns.map V.int) (k : Int) = some (.int ns[k]) := atI_nat (by rw [List.getElem?_map, List.getElem?_eq_getElem hk]; rfl)
      refine ⟨a, _, k, _, rfl, rfl, hs, hat, a, _, k, _, rfl, rfl, hs, hat, ?_⟩
      have h1 : 0 ≤ ns[k] % 251 := Int.emod_nonneg _ (by decide)
      have h2 : ns[k] % 251 < 251 := Int.emod_lt_of_pos _ (by decide)
      exact ⟨_, rfl, by decide, cmul_l (by omega), _, rfl, q⟩
    · have hk : ¬ k < ns.length := fun z => c (by simpa using z)
      rw [List.getElem?_eq_none (by omega)] at q
      exact q
abbrev s__law_mixed : Stmt := topS 47
theorem sc__law_mixed : FnScope ["_law_cell", "_law_k"] ["_law_cell", "_law_k"] (defScope s__law_mixed) := ⟨rfl, rfl, rfl, by decide +kernel, rfl, by decide +kernel, by decide +kernel⟩

def sp_mixed : Sp := fun vs H Q _ => ∃ c k : Int, vs = [.int c, .int k] ∧ 0 ≤ k ∧ k < 5000 ∧ Q (.int (mixed c k)) H
theorem ok_mixed (F : FnP K "_law_mixed" s__law_mixed f fd) : FnOk P w K mg base CX0 1 f fd ["_law_cell", "_law_k"] sp_mixed := by
  refine F.ok sc__law_mixed (fun vs H Q E h => ?_) (fun cdv A outer s H vs Q E hr h => ?_)
  · obtain ⟨c, k, rfl, _⟩ := h
    rfl
  · obtain ⟨c, k, rfl, h0, h1, q⟩ := h
    refine ⟨_, PSs.nox (pss_one (ps_ret (pe_op op_mod (pe_op op_add (pe_op op_add (pe_op op_mul (pv 0) (pe_op op_add (pe_op op_add pe_int (pe_op op_mul (pe_op op_mul pe_int (pv 1)) (pv 1))) (pe_op op_mul pe_int (pv 1)))) (pe_op op_mul pe_int (pv 1))) pe_int) pe_int))), ?_⟩
    walk_at "rd"
    have h2 : 0 ≤ k * k := Int.mul_nonneg h0 h0
    have h3 : k * k ≤ 5000 * 5000 := Int.mul_le_mul (by omega) (by omega) h0 (by omega)
    have h4 : 7919 * k * k = 7919 * (k * k) := Int.mul_assoc _ _ _
    refine ⟨cmul_l (by omega), cmul_l (by omega), cmul_l (by omega), cmul_r (by rw [h4]; omega), cmul_l (by omega), by decide, q⟩
abbrev s__law_whole : Stmt := topS 48
theorem sc__law_whole : FnScope ["_law_found"] ["_law_found"] (defScope s__law_whole) := ⟨rfl, rfl, rfl, by decide +kernel, rfl, by decide +kernel, by decide +kernel⟩

def sp_whole (K : PySem.W.Frag) : Sp := fun vs H Q _ => ∃ (v : V) (d : PyData), vs = [v] ∧ Dp K H v d ∧ Q (.bl (isD d "int" && !isD d "bool")) H
theorem ok_whole (F : FnP K "_law_whole" s__law_whole f fd) (z_isinstance : mg "isinstance" = none) (z_int : mg "int" = none) (z_bool : mg "bool" = none) : FnOk P w K mg base CX0 1 f fd ["_law_found"] (sp_whole K) := by
  refine F.ok sc__law_whole (fun vs H Q E h => ?_) (fun cdv A outer s H vs Q E hr h => ?_)
  · obtain ⟨_, _, rfl, _⟩ := h
    rfl
  · obtain ⟨v, d, rfl, hd, q⟩ := h
    refine ⟨_, PSs.nox (pss_one (ps_ret (pe_and (pe_callB (isK (K := K) rfl) (by rfl) z_isinstance (by decide +kernel) (pa_cons (pv 0) (pa_cons (pe_bltn (v := .ty "int") (u := .type "int") (by rfl) z_int (by decide +kernel) rfl) pa_nil))) (pe_one (pe_not (pe_callB (isK (K := K) rfl) (by rfl) z_isinstance (by decide +kernel) (pa_cons (pv 0) (pa_cons (pe_bltn (v := .ty "bool") (u := .type "bool") (by rfl) z_bool (by decide +kernel) rfl) pa_nil)))))))), ?_⟩
    walk_at "rd"
    refine ⟨v, d, "int", rfl, hd, by decide, _, rfl, ?_⟩
    cases e : isD d "int" with
    | true =>
      rw [e] at q
      exact iteT ⟨v, d, "bool", rfl, hd, by decide, _, rfl, q⟩
    | false =>
      rw [e] at q
      exact iteF q
abbrev s__law_plan : Stmt := topS 49
theorem sc__law_plan : FnScope ["_law_cell", "_law_most", "_law_counts", "_law_k"] ["_law_cell"] (defScope s__law_plan) := ⟨rfl, rfl, rfl, by decide +kernel, rfl, by decide +kernel, by decide +kernel⟩

def sp_plan (K : PySem.W.Frag) : Sp := fun vs H Q _ => ∃ c : Int, vs = [.int c] ∧ ∀ v H', Same H H' → Dp K H' v (planD (planCs c) (planG c)) → Q v H'
theorem ok_plan (F : FnP K "_law_plan" s__law_plan f fd) (c__law_mixed : Cal P w K mg base CX0 1 "_law_mixed" ["_law_cell", "_law_k"] sp_mixed) (z_range : mg "range" = none) (z_len : mg "len" = none) (z_tuple : mg "tuple" = none) : FnOk P w K mg base CX0 2 f fd ["_law_cell"] (sp_plan K) := by
  refine F.ok sc__law_plan (fun vs H Q E h => ?_) (fun cdv A outer s H vs Q E hr h => ?_)
  · obtain ⟨_, rfl, _⟩ := h
    rfl
  · obtain ⟨c, rfl, q⟩ := h
    refine ⟨_, PSs.nox (pss_cons (ps_set (i := 1) sc__law_plan.nd rfl (Or.inr rfl) (pe_ix (ix_listK (K := K) rfl) (pe_lst (pa_cons pe_int (pa_cons pe_int (pa_cons pe_int (pa_cons pe_int pa_nil))))) (pe_op op_mod (pe_op op_fdiv (pv 0) pe_int) pe_int) (fun _ _ => rfl)))
      (pss_cons (ps_setLc (i := 2) (own := [("_law_k", 3)]) (g := gName 3) rfl sc__law_plan.nd rfl rfl (sw_true rfl rfl rfl (by decide +kernel)) (pi_range1 rfl z_range (pa_cons (pe_op op_add pe_int (pe_op op_mod (pv 0) pe_int)) pa_nil)) (blkOk_by (own := [("_law_k", 3)]) (N := ["_law_cell", "_law_most", "_law_counts", "_law_k"]) (sc := defScope s__law_plan) (by decide +kernel)) (fun _ _ _ _ _ => pg_name (i := 3) sc__law_plan.nd rfl (Or.inl rfl)) (fun _ _ _ _ _ => pts_nil) (fun _ _ _ _ _ => (pe_op op_add pe_int (pe_op op_mod (pe_f c__law_mixed (hr.mono (by decide)) (pa_cons (pe_op op_fdiv (pv 0) pe_int) (pa_cons (pv 3) pa_nil))) (pv 1)))))
      (pss_cons (ps_if (pt_cmpR op_eq (pe_op op_mod (pe_op op_fdiv (pv 0) pe_int) pe_int) pe_int (nomark _)) (pss_one (ps_asg (pe_op op_sub pe_int (pe_op op_mod (pe_op op_fdiv (pv 0) pe_int) pe_int)) (pg_sub (pv 2) (pe_op op_mod (pe_op op_fdiv (pv 0) pe_int) (pe_callB (lenK (K := K) rfl) (by rfl) z_len (by decide +kernel) (pa_cons (pv 2) pa_nil))) set_list))) pss_nil)
      (pss_one (ps_ret (pe_tup (pa_cons (pe_callTy (tupleK (K := K) rfl) (by rfl) z_tuple (by decide +kernel) (pa_cons (pv 2) pa_nil)) (pa_cons (pe_ix (ix_listK (K := K) rfl) (pe_lst (pa_cons pe_int (pa_cons pe_int (pa_cons pe_int (pa_cons (pe_op op_mod (pe_op op_fdiv (pv 0) pe_int) pe_int) pa_nil))))) (pe_op op_mod (pe_op op_fdiv (pv 0) pe_int) pe_int) (fun _ _ => rfl)) pa_nil)))))))), ?_⟩
    walk_at "rd"
    refine ⟨by decide, fun p np => ⟨⟨by decide, by decide⟩, by decide, p, _, _, .int (mostOf c), rfl, rfl, .inl (.inl upd_same), ?_, ?_⟩⟩
    · have h1 : 0 ≤ c / 7 % 4 := Int.emod_nonneg _ (by decide)
      refine at_of (j := (c / 7 % 4).toNat) (by omega) ?_
      unfold mostOf
      rcases mod4 (c / 7) with h | h | h | h <;> rw [h] <;> rfl
    have s1 : Same H (upd H p (.lst [V.int 3, V.int 9, V.int 1000, V.int 1000000])) := same_upd np
    have hm := mostOf_ok c
    have h7 : 0 ≤ c % 7 := Int.emod_nonneg _ (by decide)
    have h7b : c % 7 < 7 := Int.emod_lt_of_pos _ (by decide)
    have em : (((2 + c % 7).toNat : Nat) : Int) = 2 + c % 7 := by omega
    refine lc_dpR (K := K) (m := (2 + c % 7).toNat) (fun _ => true) (fun k => .int (1 + mixed (c / 112) k % mostOf c)) (fun R h => ?_) (by omega) (fun n H' R _ _ k => yes_t k) (fun n H' D R e _ hD _ sm k => ?_) (fun D acc H' hD sm e dp => ?_)
    · rw [em] at h
      walk_at "rd"
      exact ⟨by decide, h⟩
    · walk_at "rd"
      refine ⟨⟨by decide, by decide⟩, c / 112, n, rfl, by omega, by omega, _, rfl, by omega, ?_⟩
      exact k _ _ (Same.refl _) (.int _)
    · rw [filter_yes] at dp
      have ea : acc = (counts0 c).map V.int := dpa_ints_eq (by unfold counts0; rw [List.map_map]; exact dp)
      subst ea
      have sm0 : Same H H' := s1.trans sm
      have nD : H D = none := s1.free hD
      refine ⟨⟨by decide, by decide⟩, by decide, ?_⟩
      have hl : ((counts0 c).map V.int).length = (counts0 c).length := List.length_map ..
      have hln := counts0_len c
      -- what stands behind the if
      have fin : ∀ H2, H2 D = some (.lst ((planCs c).map V.int)) → Same H H2 → ∀ l, H2 l = none → CDiv c 112 ∧ (0 : Int) < 1000001 ∧ 4 ≤ sizeLine ∧ ∀ p, upd H2 l (.tup ((planCs c).map V.int)) p = none → CDiv c 28 ∧ (0 : Int) < 4 ∧
          rIxL K (V.ref p) (V.int (c / 28 % 4)) (upd (upd H2 l (.tup ((planCs c).map V.int))) p (HO.lst [V.int 0, V.int 1, V.int 7, V.int (c / 112 % 1000001)])) fun x H1 => 2 ≤ sizeLine ∧ ∀ p, H1 p = none → Q (V.ref p) (upd H1 p (.tup [V.ref l, x])) := by
        intro H2 e2 s2 l nl
        refine ⟨⟨by decide, by decide⟩, by decide, by decide, fun p2 np2 => ⟨⟨by decide, by decide⟩, by decide, p2, _, _, .int (planG c), rfl, rfl, .inl (.inl upd_same), ?_, by decide, fun t nt => ?_⟩⟩
        · have h1 : 0 ≤ c / 28 % 4 := Int.emod_nonneg _ (by decide)
          refine at_of (j := (c / 28 % 4).toNat) (by omega) ?_
          unfold planG
          rcases mod4 (c / 28) with h | h | h | h <;> rw [h] <;> rfl
        · have sA : Same (upd H2 l (.tup ((planCs c).map V.int))) _ := same_upd np2 (o := HO.lst [V.int 0, V.int 1, V.int 7, V.int (c / 112 % 1000001)])
          have sB : Same _ _ := same_upd nt (o := HO.tup [V.ref l, V.int (planG c)])
          refine q _ _ (((s2.trans (same_upd nl)).trans sA).trans sB) (plan_dp (.inl (.inl upd_same)) (.inl (.inl ?_)))
          exact sB _ _ (sA _ _ upd_same)
      refine ite2 (fun c3 => ?_) (fun c3 => ?_)
      · have c4 : c / 28 % 4 = 3 := of_decide_eq_true c3
        have hcs : planCs c = (counts0 c).set (c / 112 % ((counts0 c).length : Int)).toNat (1000000 - c / 300 % 3) := if_pos c4
        have hp0 : 0 ≤ c / 112 % ((counts0 c).length : Int) := Int.emod_nonneg _ (by omega)
        have hp1 : c / 112 % ((counts0 c).length : Int) < (counts0 c).length := Int.emod_lt_of_pos _ (by omega)
        refine ⟨⟨by decide, by decide⟩, by decide, ⟨by decide, by decide⟩, D, rfl, _, .inl (.inl (.inl e)), by omega, ?_⟩
        rw [hl]
        have hix : ixN ((counts0 c).map V.int).length (c / 112 % ((counts0 c).length : Int)) = some (c / 112 % ((counts0 c).length : Int)).toNat := by
          obtain ⟨j, hj⟩ := Int.eq_ofNat_of_zero_le hp0
          rw [hj, Int.toNat_natCast]
          exact Evl.ixN_nat (by omega)
        refine ⟨D, _, _, _, rfl, rfl, e, hix, D, rfl, _, .inl ⟨.inl (.inl upd_same), ?_⟩⟩
        rw [← List.map_set, ← hcs]
        exact fin _ upd_same (same_mut sm0 nD)
      · have c4 : ¬ c / 28 % 4 = 3 := fun z => c3 (decide_eq_true z)
        have hcs : planCs c = counts0 c := if_neg c4
        refine ⟨D, rfl, _, .inl ⟨.inl (.inl e), ?_⟩⟩
        rw [← hcs]
        rw [← hcs] at e
        exact fin _ e sm0
abbrev s__law_behind : Stmt := topS 50
theorem sc__law_behind : FnScope ["_law_plan_here", "_law_sign", "_law_counts"] ["_law_plan_here", "_law_sign"] (defScope s__law_behind) := ⟨rfl, rfl, rfl, by decide +kernel, rfl, by decide +kernel, by decide +kernel⟩

def sp_lbehind (K : PySem.W.Frag) : Sp := fun vs H Q _ => ∃ (v : V) (cs : List Int) (g s : Int), vs = [v, .int s] ∧ Dp K H v (planD cs g) ∧ Plan cs g ∧ 0 ≤ s ∧ s < cs.length ∧ ∀ v' H', Same H H' → Dp K H' v' (planD (grown cs g s) g) → Q v' H'
theorem ok_lbehind (F : FnP K "_law_behind" s__law_behind f fd) (z_list : mg "list" = none) (z_min : mg "min" = none) (z_tuple : mg "tuple" = none) : FnOk P w K mg base CX0 1 f fd ["_law_plan_here", "_law_sign"] (sp_lbehind K) := by
  refine F.ok sc__law_behind (fun vs H Q E h => ?_) (fun cdv A outer s H vs Q E hr h => ?_)
  · obtain ⟨_, _, _, _, rfl, _⟩ := h
    rfl
  · obtain ⟨v, cs, g, s, rfl, hd, pl, h0, h1, q⟩ := h
    refine ⟨_, PSs.nox (pss_cons (ps_set (i := 2) sc__law_behind.nd rfl (Or.inl rfl) (pe_callTy (listK (K := K) rfl) (by rfl) z_list (by decide +kernel) (pa_cons (pe_ix (ix_tupK (K := K) rfl) (pv 0) pe_int (fun _ _ => rfl)) pa_nil)))
      (pss_cons (ps_asg (pe_callB (call_min2 rfl) (by rfl) z_min (by decide +kernel) (pa_cons pe_int (pa_cons (pe_op op_add (pe_ix (ix_listK (K := K) rfl) (pv 2) (pv 1) (fun _ _ => rfl)) (pe_ix (ix_tupK (K := K) rfl) (pv 0) pe_int (fun _ _ => rfl))) pa_nil))) (pg_sub (pv 2) (pv 1) set_list))
      (pss_one (ps_ret (pe_tup (pa_cons (pe_callTy (tupleK (K := K) rfl) (by rfl) z_tuple (by decide +kernel) (pa_cons (pv 2) pa_nil)) (pa_cons (pe_ix (ix_tupK (K := K) rfl) (pv 0) pe_int (fun _ _ => rfl)) pa_nil))))))), ?_⟩
    walk_at "rd"
    obtain ⟨a, c, rfl, ha, hc⟩ := plan_at hd
    refine ⟨a, _, 0, .ref c, rfl, rfl, ha, rfl, c, rfl, _, .inr hc, fun l nl => ?_⟩
    have s1 : Same H _ := same_upd nl (o := HO.lst (cs.map V.int))
    have hat := at_nth (cs := cs) h0 h1
    have hix : ixN (cs.map V.int).length s = some s.toNat := by
      obtain ⟨j, hj⟩ := Int.eq_ofNat_of_zero_le h0
      rw [hj, Int.toNat_natCast]
      exact Evl.ixN_nat (by rw [List.length_map]; omega)
    refine ⟨l, _, s, _, rfl, rfl, .inl (.inl upd_same), hat, a, _, 1, .int g, rfl, rfl, same_t s1 ha, rfl, _, rfl, g, rfl, l, _, s, _, rfl, rfl, upd_same, hix, _, .inl ⟨.inl (.inl upd_same), fun l2 nl2 => ?_⟩⟩
    have em : (if nth cs s + g < 1000000 then nth cs s + g else (1000000 : Int)) = min (nth cs s + g) 1000000 := by
      by_cases z : nth cs s + g < 1000000
      · rw [if_pos z]; omega
      · rw [if_neg z]; omega
    have em2 : (cs.map V.int).set s.toNat (V.int (if nth cs s + g < 1000000 then nth cs s + g else (1000000 : Int))) = (grown cs g s).map V.int := by
      rw [em, ← List.map_set]
      rfl
    rw [em2] at nl2 ⊢
    have s2 : Same H (upd (upd H l (HO.lst (cs.map V.int))) l (HO.lst ((grown cs g s).map V.int))) := same_mut s1 nl
    have s3 : Same H _ := s2.trans (same_upd nl2 (o := HO.tup ((grown cs g s).map V.int)))
    refine ⟨a, _, 1, .int g, rfl, rfl, same_t s3 ha, rfl, by decide, fun t nt => ?_⟩
    have s4 : Same _ _ := same_upd nt (o := HO.tup [V.ref l2, V.int g])
    exact q _ _ (s3.trans s4) (plan_dp (.inl (.inl upd_same)) (.inl (.inl (s4 _ _ upd_same))))
abbrev s__law_signs : Stmt := topS 51
theorem sc__law_signs : FnScope ["_law_cell", "_law_plan_here", "_law_most", "_law_size", "_law_way", "_law_signs_here", "_law_k", "_law_sign"] ["_law_cell", "_law_plan_here", "_law_most"] (defScope s__law_signs) := ⟨rfl, rfl, rfl, by decide +kernel, rfl, by decide +kernel, by decide +kernel⟩

def sp_signs (K : PySem.W.Frag) : Sp := fun vs H Q _ => ∃ (v : V) (c : Int) (cs : List Int) (g : Int) (most : Nat), vs = [.int c, v, .int most] ∧ Dp K H v (planD cs g) ∧ 0 < cs.length ∧ most ≤ 1000 ∧ ∀ p H', H p = none → Same H H' → H' p = some (.lst ((signsOf c cs.length most).map V.int)) → Q (.ref p) H'
theorem ok_signs (F : FnP K "_law_signs" s__law_signs f fd) (c__law_mixed : Cal P w K mg base CX0 1 "_law_mixed" ["_law_cell", "_law_k"] sp_mixed) (z_range : mg "range" = none) (z_len : mg "len" = none) : FnOk P w K mg base CX0 2 f fd ["_law_cell", "_law_plan_here", "_law_most"] (sp_signs K) := by
  refine F.ok sc__law_signs (fun vs H Q E h => ?_) (fun cdv A outer s H vs Q E hr h => ?_)
  · obtain ⟨_, _, _, _, _, rfl, _⟩ := h
    rfl
  · obtain ⟨v, c, cs, g, most, rfl, hd, hn, hm, q⟩ := h
    refine ⟨_, PSs.nox (pss_cons (ps_set (i := 3) sc__law_signs.nd rfl (Or.inl rfl) (pe_op op_mod (pv 0) (pe_op op_add (pv 2) pe_int)))
      (pss_cons (ps_set (i := 4) sc__law_signs.nd rfl (Or.inl rfl) (pe_op op_mod (pe_op op_fdiv (pv 0) pe_int) pe_int))
      (pss_cons (ps_set (i := 5) sc__law_signs.nd rfl (Or.inl rfl) (pe_lst pa_nil))
      (pss_cons (ps_for PassesOwn.never rfl (pi_range1 rfl z_range (pa_cons (pv 3) pa_nil)) (pg_name (i := 6) sc__law_signs.nd rfl (.inl rfl)) (pss_cons (ps_set (i := 7) sc__law_signs.nd rfl (Or.inl rfl) (pe_op op_mod (pe_f c__law_mixed (hr.mono (by decide)) (pa_cons (pe_op op_fdiv (pv 0) pe_int) (pa_cons (pv 6) pa_nil))) (pe_callB (lenK (K := K) rfl) (by rfl) z_len (by decide +kernel) (pa_cons (pe_ix (ix_tupK (K := K) rfl) (pv 1) pe_int (fun _ _ => rfl)) pa_nil))))
      (Evl.pss_cut (ps_if (pt_cmpR op_eq (pv 4) pe_int (nomark _)) (pss_one (ps_set (i := 7) sc__law_signs.nd rfl (Or.inl rfl) (pe_op op_mod (pe_op op_fdiv (pv 0) pe_int) (pe_callB (lenK (K := K) rfl) (by rfl) z_len (by decide +kernel) (pa_cons (pe_ix (ix_tupK (K := K) rfl) (pv 1) pe_int (fun _ _ => rfl)) pa_nil))))) pss_nil)
      (Evl.pss_cut (ps_if (PW.pt (pw_and (pt_cmpR op_eq (pv 4) pe_int (nomark _)) (pw_and1 (pt_cmpR op_lt (pe_op op_mod (pv 6) pe_int) pe_int (nomark _))))) (pss_one (ps_set (i := 7) sc__law_signs.nd rfl (Or.inl rfl) pe_int)) pss_nil)
      (pss_one (ps_expr (pe_bm PySem.F.plainAttrs_list PySem.F.slot_list_append PySem.F.type_list_append mt_append (pv 5) (pa_cons (pv 7) pa_nil))))))))
      (pss_one (ps_ret (pv 5))))))), ?_⟩
    walk_at "rd"
    have hz0 : 0 ≤ c % ((most : Int) + 1) := Int.emod_nonneg _ (by omega)
    have hz1 : c % ((most : Int) + 1) < (most : Int) + 1 := Int.emod_lt_of_pos _ (by omega)
    obtain ⟨a, cc, rfl, ha, hc⟩ := plan_at hd
    refine ⟨by omega, ⟨by decide, by decide⟩, by decide, by decide, fun p np => ?_⟩
    have s0 : Same H (upd H p (.lst [])) := same_upd np
    refine ⟨_, rfl, c % ((most : Int) + 1), rfl, by omega, by omega, for_range (lo := 0) (n := (c % ((most : Int) + 1)).toNat) (fun i σ H' => ∃ y6 y7, σ = [some (.int c), some (.ref a), some (.int most), some (.int (c % ((most : Int) + 1))), some (.int (c / 61 % 4)), some (.ref p), y6, y7] ∧ Same H H' ∧ H' p = some (.lst (((List.range i).map (signAt c cs.length)).map V.int)))
      ⟨none, none, rfl, s0, upd_same⟩ ?_ ?_⟩
    · rintro i σ H' hi ⟨y6, y7, rfl, sm, e⟩
      have ta := same_t sm ha
      have tc := same_t sm hc
      walk_at "rd"
      refine ⟨⟨by decide, by decide⟩, c / 244, i, by rw [Int.zero_add], by omega, by omega, ?_⟩
      refine ⟨a, _, 0, .ref cc, rfl, rfl, ta, rfl, cc, rfl, _, .inr tc, _, rfl, ?_⟩
      rw [List.length_map]
      rw [Int.zero_add]
      have hn0 : (0 : Int) < cs.length := by omega
      refine ⟨hn0, fun σ2 H2 => H2 = H' ∧ σ2 = [some (.int c), some (.ref a), some (.int most), some (.int (c % ((most : Int) + 1))), some (.int (c / 61 % 4)), some (.ref p), some (.int i), some (.int (if c / 61 % 4 = 1 then c / 244 % (cs.length : Int) else mixed (c / 244) i % (cs.length : Int)))], ?_, ?_⟩
      · refine ite2 (fun c1 => ?_) (fun c1 => ?_)
        · refine ⟨⟨by decide, by decide⟩, a, _, 0, .ref cc, rfl, rfl, ta, rfl, cc, rfl, _, .inr tc, ?_⟩
          rw [List.length_map, if_pos (of_decide_eq_true c1)]
          exact ⟨hn0, rfl, rfl⟩
        · rw [if_neg (fun z => c1 (decide_eq_true z))]
          exact ⟨rfl, rfl⟩
      · rintro σ2 H2 ⟨rfl, rfl⟩
        walk_at "rd"
        refine ⟨fun σ3 H3 => H3 = H2 ∧ σ3 = [some (.int c), some (.ref a), some (.int most), some (.int (c % ((most : Int) + 1))), some (.int (c / 61 % 4)), some (.ref p), some (.int i), some (.int (signAt c cs.length i))], ?_, ?_⟩
        · unfold signAt
          refine ite2 (fun c2 => ?_) (fun c2 => ?_)
          · have d2 := of_decide_eq_true c2
            refine ⟨by decide, ite2 (fun c3 => ?_) (fun c3 => ?_)⟩
            · rw [if_pos ⟨d2, of_decide_eq_true c3⟩]
              exact ⟨rfl, rfl⟩
            · rw [if_neg (fun z => c3 (decide_eq_true z.2))]
              exact ⟨rfl, rfl⟩
          · rw [if_neg (fun z => c2 (decide_eq_true z.1))]
            exact ⟨rfl, rfl⟩
        · rintro σ3 H3 ⟨rfl, rfl⟩
          refine ⟨_, rfl, .inl ⟨rfl, _, .inl (.inl e)⟩, _, rfl, p, _, _, rfl, rfl, e, ?_, ⟨_, _, rfl⟩, same_mut sm np, ?_⟩
          · rw [List.length_map, List.length_map, List.length_range]
            exact Nat.lt_of_lt_of_le (show i < 100001 by omega) (by decide)
          · rw [upd_same, List.range_succ, List.map_append, List.map_append]
            rfl
    · rintro σ H' ⟨y6, y7, rfl, sm, e⟩
      walk_at "rd"
      exact q p H' np sm e
end

/-! ### calls of the laws' own defs, as data -/
section
variable {K : PySem.W.Frag} {te ta tb tc : TE} {σ : L2.St} {H : Hp} {d x : PyData} {ns cs : List Int} {g c s : Int}
theorem dpa1 {v : V} {vs : List V} (h : DpAll K H vs [d]) : ∃ v, vs = [v] ∧ Dp K H v d := by
  cases h with
  | cons h1 h2 => cases h2; exact ⟨_, rfl, h1⟩
theorem ev_cell {k : Nat} (h : EvD K ta σ H (.list (ns.map PyData.int))) (hk : EvV tb σ H (.int (k : Int))) : EvV (tCall (sp_cell_at K) [] E0 (tCons ta (tCons tb tNil))) σ H (.int (cellAt ns k)) :=
  evv_call (eds_cons h (eds_cons hk.int eds_nil)) fun vs H1 Q s1 d1 q => by
    cases d1 with
    | cons a1 a2 => cases a2 with
      | cons a2 a3 =>
        cases a3
        cases dp_int a2
        cases a1 with
        | lst hs ha =>
          rw [dpa_ints_eq ha] at hs
          exact ⟨_, ns, k, rfl, hs, q H1 (Same.refl _)⟩
theorem ev_whole (h : EvD K ta σ H d) : EvV (tCall (sp_whole K) [] E0 (tCons ta tNil)) σ H (.bl (isD d "int" && !isD d "bool")) :=
  evv_call (eds_cons h eds_nil) fun vs H1 Q s1 d1 q => by
    cases d1 with
    | cons a1 a2 =>
      cases a2
      exact ⟨_, d, rfl, a1, q H1 (Same.refl _)⟩
theorem evd_plan (h : EvV ta σ H (.int c)) : EvD K (tCall (sp_plan K) [] E0 (tCons ta tNil)) σ H (planD (planCs c) (planG c)) :=
  evd_call (eds_cons h.int eds_nil) fun vs H1 Q s1 d1 q => by
    cases d1 with
    | cons a1 a2 =>
      cases a2
      cases dp_int a1
      exact ⟨c, rfl, q⟩
theorem evd_lbehind (h : EvD K ta σ H (planD cs g)) (hs : EvV tb σ H (.int s)) (pl : Plan cs g) (h0 : 0 ≤ s) (h1 : s < cs.length) : EvD K (tCall (sp_lbehind K) [] E0 (tCons ta (tCons tb tNil))) σ H (planD (grown cs g s) g) :=
  evd_call (eds_cons h (eds_cons hs.int eds_nil)) fun vs H1 Q s1 d1 q => by
    cases d1 with
    | cons a1 a2 => cases a2 with
      | cons a2 a3 =>
        cases a3
        cases dp_int a2
        exact ⟨_, cs, g, s, rfl, a1, pl, h0, h1, q⟩
theorem evo_signs {most : Nat} (hc : EvV ta σ H (.int c)) (h : EvD K tb σ H (planD cs g)) (hm : EvV tc σ H (.int (most : Int))) (hn : 0 < cs.length) (hl : most ≤ 1000) : EvO K (tCall (sp_signs K) [] E0 (tCons ta (tCons tb (tCons tc tNil)))) σ H ((signsOf c cs.length most).map PyData.int) :=
  evo_call (eds_cons hc.int (eds_cons h (eds_cons hm.int eds_nil))) fun vs H1 Q s1 d1 q => by
    cases d1 with
    | cons a1 a2 => cases a2 with
      | cons a2 a3 => cases a3 with
        | cons a3 a4 =>
          cases a4
          cases dp_int a1
          cases dp_int a3
          exact ⟨_, c, cs, g, most, rfl, a2, hn, hl, fun p H2 np s2 e2 => q p _ H2 np s2 e2 (dpa_ints _)⟩
end

section
variable {K : PySem.W.Frag} {te : TE} {σ : L2.St} {H : Hp} {ns : List Int} {j : Nat}
theorem ev_allWhole (h : EvD K te σ H (.list (ns.map PyData.int))) (hz : ns.length ≤ 100000) (hj : ∀ x, ((wipe σ [j]).set j (some x))[j]? = some (some x)) : EvV (tCB (rAll K) (tCons (tLc (iList K te) (gName j) tYes (tCall (sp_whole K) [] E0 (tCons (tVar j) tNil)) [j]) tNil)) σ H (.bl true) := by
  have e : ((ns.map fun _ => true).all id) = true := List.all_eq_true.mpr fun b hb => by
    obtain ⟨_, _, rfl⟩ := List.mem_map.mp hb
    rfl
  refine EvV.is (ev_all (bs := ns.map fun _ => true) (EvK.dat (EvO.k (EvO.is (evo_lcL (K := K) .none (fun _ => true) (fun _ => .bool true) h (by rw [List.length_map]; exact hz) (fun x d H1 R _ _ _ k => yes_t k) (fun x d G D R hm _ r1 hx hD r2 k => ?_)) ?_)))) (by rw [e])
  · obtain ⟨i, hi, rfl⟩ := List.mem_map.mp hm
    cases dp_int hx
    exact (ev_whole (d := .int i) (evd_var (hj _) (.int i))) G R (Same.refl _) fun H2 s2 => k _ H2 s2 (.bl _)
  · rw [filter_yes, List.map_map, List.map_map]
    rfl
theorem sgn_back {cs : List Int} {g : Int} {ss xs : List Int} {m : Nat} (pl : Plan cs g) (tx : Text cs.length ss) (hb : Bits xs) (hm : m ≤ ss.length) : sgn cs g m (figsIn (textS cs g ss) ++ xs) = ss.take m := by
  have bf := figsIn_bits (textS cs g ss)
  have gd := textS_good pl tx
  exact certain_back (figS_good (bf.both hb)) whole_good pl tx.signs (within_trans (figS_good (bf.both hb)) (figS_good bf) gd (figs_prefix hb) (figsIn_within gd)) hm
theorem sgn_back0 {cs : List Int} {g : Int} {ss : List Int} {m : Nat} (pl : Plan cs g) (tx : Text cs.length ss) (hm : m ≤ ss.length) : sgn cs g m (figsIn (textS cs g ss)) = ss.take m := by
  have := sgn_back (xs := []) pl tx (fun _ h => nomatch h) hm
  rw [List.append_nil] at this
  exact this
end

section
variable {P : Program} {w : World} {K : PySem.W.Frag} {mg : Str → Option Value} {base : Heap} {f : Addr} {fd : FuncData}
abbrev s_parted : Stmt := topS 26
theorem sc_parted : FnScope ["stretch", "one", "low", "wide", "parts", "below", "count", "total"] ["stretch", "one"] (defScope s_parted) := ⟨rfl, rfl, rfl, by decide +kernel, rfl, by decide +kernel, by decide +kernel⟩

def sp_parted (K : PySem.W.Frag) : Sp := fun vs H Q _ => ∃ (v u : V) (s : S3) (n : Nat) (b c q : Int), vs = [v, u] ∧ Dp K H v s.d ∧ Dp K H u (.tuple [.int b, .int c, .int q]) ∧ s.Ok n ∧ n ≤ 100000 ∧ Share b c q ∧ ∀ v' H', Same H H' → Dp K H' v' (s.by b c q).d → Q v' H'
theorem ok_parted (F : FnP K "parted" s_parted f fd) : FnOk P w K mg base CX0 1 f fd ["stretch", "one"] (sp_parted K) := by
  refine F.ok sc_parted (fun vs H Q E h => ?_) (fun cdv A outer s H vs Q E hr h => ?_)
  · obtain ⟨_, _, _, _, _, _, _, rfl, _⟩ := h
    rfl
  · obtain ⟨v, u, s, n, b, c, q, rfl, hv, hu, ok, hn, sh, k⟩ := h
    refine ⟨_, PSs.nox (pss_hold (ps_asg (pv 0) (pg_tupK (K := K) (n := 3) rfl rfl (pgs_cons (pg_name (i := 2) sc_parted.nd rfl (.inl rfl)) (pgs_cons (pg_name (i := 3) sc_parted.nd rfl (.inl rfl)) (pgs_cons (pg_name (i := 4) sc_parted.nd rfl (.inl rfl)) pgs_nil)))))
      (pss_hold (ps_asg (pv 1) (pg_tupK (K := K) (n := 3) rfl rfl (pgs_cons (pg_name (i := 5) sc_parted.nd rfl (.inl rfl)) (pgs_cons (pg_name (i := 6) sc_parted.nd rfl (.inl rfl)) (pgs_cons (pg_name (i := 7) sc_parted.nd rfl (.inl rfl)) pgs_nil)))))
      (pss_one (ps_ret (pe_tup (pa_cons (pe_op op_add (pe_op op_mulW (pv 2) (pv 7)) (pe_op op_mulW (pv 3) (pv 5))) (pa_cons (pe_op op_mulW (pv 3) (pv 6)) (pa_cons (pe_op op_mulW (pv 4) (pv 7)) pa_nil)))))))), ?_⟩
    have sa := sh.abs
    refine unpS (evd_var rfl hv) fun H1 s1 => hold (unpS (s := ⟨b, c, q⟩) (evd_var rfl (dp_same s1 _ _ hu)) fun H2 s2 => hold (retD (d := (s.by b c q).d) (evd_tup (eds_cons (EvV.int (ev_op0 (ev_op (ev_var rfl) (ev_var rfl) (wmul ok.labs sa.2.2 (by omega))) (ev_op (ev_var rfl) (ev_var rfl) (wmul ok.wabs sa.1 (by omega)))))
      (eds_cons (EvV.int (ev_op (ev_var rfl) (ev_var rfl) (wmul ok.wabs sa.2.1 (by omega)))) (eds_cons (EvV.int (ev_op (ev_var rfl) (ev_var rfl) (wmul ok.tabs sa.2.2 (by omega)))) eds_nil))) (by show 3 ≤ 100000; omega)) fun v' H3 s3 d3 => k v' H3 ((s1.trans s2).trans s3) d3))
abbrev s_within : Stmt := topS 27
theorem sc_within : FnScope ["one", "other", "low", "wide", "parts", "other_low", "other_wide", "other_parts"] ["one", "other"] (defScope s_within) := ⟨rfl, rfl, rfl, by decide +kernel, rfl, by decide +kernel, by decide +kernel⟩

def sp_within (K : PySem.W.Frag) : Sp := fun vs H Q _ => ∃ (v u : V) (s t : S3) (n m : Nat), vs = [v, u] ∧ Dp K H v s.d ∧ Dp K H u t.d ∧ s.Ok n ∧ t.Ok m ∧ n + m ≤ 800000 ∧ ∀ H', Same H H' → Q (.bl (withinB s t)) H'
theorem ok_within (F : FnP K "within" s_within f fd) : FnOk P w K mg base CX0 1 f fd ["one", "other"] (sp_within K) := by
  refine F.ok sc_within (fun vs H Q E h => ?_) (fun cdv A outer s H vs Q E hr h => ?_)
  · obtain ⟨_, _, _, _, _, _, rfl, _⟩ := h
    rfl
  · obtain ⟨v, u, s, t, n, m, rfl, hv, hu, ok, ok2, hn, k⟩ := h
    refine ⟨_, PSs.nox (pss_hold (ps_asg (pv 0) (pg_tupK (K := K) (n := 3) rfl rfl (pgs_cons (pg_name (i := 2) sc_within.nd rfl (.inl rfl)) (pgs_cons (pg_name (i := 3) sc_within.nd rfl (.inl rfl)) (pgs_cons (pg_name (i := 4) sc_within.nd rfl (.inl rfl)) pgs_nil)))))
      (pss_hold (ps_asg (pv 1) (pg_tupK (K := K) (n := 3) rfl rfl (pgs_cons (pg_name (i := 5) sc_within.nd rfl (.inl rfl)) (pgs_cons (pg_name (i := 6) sc_within.nd rfl (.inl rfl)) (pgs_cons (pg_name (i := 7) sc_within.nd rfl (.inl rfl)) pgs_nil)))))
      (pss_hold (ps_if (pt_cmpR op_lt (pe_op op_mulW (pv 2) (pv 7)) (pe_op op_mulW (pv 5) (pv 4)) (nomark _)) (pss_one (ps_ret pe_bl)) pss_nil)
      (pss_one (ps_ret (pe_cmpR op_le (pe_op op_mulW (pe_op op_add (pv 2) (pv 3)) (pv 7)) (pe_op op_mulW (pe_op op_add (pv 5) (pv 6)) (pv 4)) (nomark _))))))), ?_⟩
    refine unpS (evd_var rfl hv) fun H1 s1 => hold (unpS (evd_var rfl (dp_same s1 _ _ hu)) fun H2 s2 => hold ?_)
    have t2 := s1.trans s2
    walk_at "rd"
    refine ⟨wmul ok.labs ok2.tabs (by omega), wmul ok2.labs ok.tabs (by omega), ?_⟩
    refine ite2 (fun c => ?_) (fun c => ?_)
    · have e : decide (s.l * t.t < t.l * s.t) = true := c
      have k2 := k H2 t2
      unfold withinB at k2
      rw [e] at k2
      exact k2
    · have e : decide (s.l * t.t < t.l * s.t) = false := by
        rw [Bool.eq_false_iff]
        exact c
      have k2 := k H2 t2
      unfold withinB at k2
      rw [e] at k2
      walk_at "nx"
      exact ⟨wmul ok.lwabs ok2.tabs (by omega), wmul ok2.lwabs ok.tabs (by omega), k2⟩
theorem evd_parted {K : PySem.W.Frag} {ta tb : TE} {σ : L2.St} {H : Hp} {s : S3} {n : Nat} {b c q : Int} (h : EvD K ta σ H s.d) (h2 : EvD K tb σ H (.tuple [.int b, .int c, .int q])) (ok : s.Ok n) (hn : n ≤ 100000) (sh : Share b c q) : EvD K (tCall (sp_parted K) [] E0 (tCons ta (tCons tb tNil))) σ H (s.by b c q).d :=
  evd_call (eds_cons h (eds_cons h2 eds_nil)) fun vs H1 Q s1 d1 k => by
    cases d1 with
    | cons a1 a2 => cases a2 with
      | cons a2 a3 =>
        cases a3
        exact ⟨_, _, s, n, b, c, q, rfl, a1, a2, ok, hn, sh, k⟩
theorem ev_within {K : PySem.W.Frag} {ta tb : TE} {σ : L2.St} {H : Hp} {s t : S3} {n m : Nat} (h : EvD K ta σ H s.d) (h2 : EvD K tb σ H t.d) (ok : s.Ok n) (ok2 : t.Ok m) (hn : n + m ≤ 800000) : EvV (tCall (sp_within K) [] E0 (tCons ta (tCons tb tNil))) σ H (.bl (withinB s t)) :=
  evv_call (eds_cons h (eds_cons h2 eds_nil)) fun vs H1 Q s1 d1 k => by
    cases d1 with
    | cons a1 a2 => cases a2 with
      | cons a2 a3 =>
        cases a3
        exact ⟨_, _, s, t, n, m, rfl, a1, a2, ok, ok2, hn, k⟩
theorem signs_ok {d x r : PyData} (h : needSignsF [d, x] = .ok r) : ∃ cs g ss, d = planD cs g ∧ Plan cs g ∧ x = .list (ss.map PyData.int) ∧ Text cs.length ss := by
  cases hp : isPlan d with
  | false =>
    rw [signs_noplan hp] at h
    cases h
  | true =>
    obtain ⟨cs, g, rfl, pl⟩ := isPlan_ok hp
    cases hx : isWholeList x 60 0 ((cs.length : Int) - 1) with
    | false =>
      rw [signs_no pl hx] at h
      cases h
    | true =>
      obtain ⟨ss, rfl, tx⟩ := isText_ok hx
      exact ⟨cs, g, ss, rfl, pl, rfl, tx⟩
abbrev s_stepped : Stmt := topS 29
theorem sc_stepped : FnScope ["stretch", "plan", "sign"] ["stretch", "plan", "sign"] (defScope s_stepped) := ⟨rfl, rfl, rfl, by decide +kernel, rfl, by decide +kernel, by decide +kernel⟩

def sp_stepped (K : PySem.W.Frag) : Sp := fun vs H Q _ => ∃ (v u : V) (s : S3) (n : Nat) (cs : List Int) (g x : Int), vs = [v, u, .int x] ∧ Dp K H v s.d ∧ Dp K H u (planD cs g) ∧ s.Ok n ∧ n ≤ 100000 ∧ Plan cs g ∧ 0 ≤ x ∧ x < cs.length ∧ ∀ v' H', Same H H' → Dp K H' v' (.tuple [(s.by (belowOf cs x) (nth cs x) cs.sum).d, planD (grown cs g x) g]) → Q v' H'
theorem ok_stepped (F : FnP K "stepped" s_stepped f fd) (c_parted : Cal P w K mg base CX0 1 "parted" ["stretch", "one"] (sp_parted K)) (c_share : Cal P w K mg base (L2N.CX P w) 5 "share" ["plan", "sign"] (sp_share K)) (c_behind : Cal P w K mg base (L2N.CX P w) 5 "behind" ["plan", "sign"] (sp_behind K)) :
    FnOk P w K mg base CX0 6 f fd ["stretch", "plan", "sign"] (sp_stepped K) := by
  refine F.ok sc_stepped (fun vs H Q E h => ?_) (fun cdv A outer s H vs Q E hr h => ?_)
  · obtain ⟨_, _, _, _, _, _, _, rfl, _⟩ := h
    rfl
  · obtain ⟨v, u, s, n, cs, g, x, rfl, hv, hu, ok, hn, pl, h0, h1, k⟩ := h
    have hok : isWhole (.int x) 0 ((cs.length : Int) - 1) = true := by
      rw [isWhole_int, decide_eq_true h0, decide_eq_true (by omega)]
      rfl
    refine ⟨_, PSs.nox (pss_one (ps_ret (pe_tup (pa_cons (pe_f c_parted (hr.mono (by decide)) (pa_cons (pv 0) (pa_cons (pe_fN c_share (hr.mono (by decide)) (pa_cons (pv 1) (pa_cons (pv 2) pa_nil))) pa_nil))) (pa_cons (pe_fN c_behind (hr.mono (by decide)) (pa_cons (pv 1) (pa_cons (pv 2) pa_nil))) pa_nil))))), ?_⟩
    exact retD (evd_tup (eds_cons (evd_parted (evd_var rfl hv) (evd_X (d := shareD cs g x) (eds_cons (evd_var rfl hu) (eds_cons (evd_var rfl (.int x)) eds_nil)) rfl (sign_yes pl hok)) ok hn (plan_share pl h0 h1))
      (eds_cons (evd_X (d := behindD cs g x) (eds_cons (evd_var rfl hu) (eds_cons (evd_var rfl (.int x)) eds_nil)) rfl (sign_yes pl hok)) eds_nil)) (by show 2 ≤ 100000; omega)) fun v' H' s' d' => k v' H' s' d'
theorem evd_stepped {K : PySem.W.Frag} {ta tb tc : TE} {σ : L2.St} {H : Hp} {s : S3} {n : Nat} {cs : List Int} {g x : Int} (h : EvD K ta σ H s.d) (h2 : EvD K tb σ H (planD cs g)) (h3 : EvV tc σ H (.int x)) (ok : s.Ok n) (hn : n ≤ 100000) (pl : Plan cs g) (h0 : 0 ≤ x) (h1 : x < cs.length) :
    EvD K (tCall (sp_stepped K) [] E0 (tCons ta (tCons tb (tCons tc tNil)))) σ H (.tuple [(s.by (belowOf cs x) (nth cs x) cs.sum).d, planD (grown cs g x) g]) :=
  evd_call (eds_cons h (eds_cons h2 (eds_cons h3.int eds_nil))) fun vs H1 Q s1 d1 k => by
    obtain ⟨v, u, y, rfl, a1, a2, a3⟩ := dpaN3 d1
    cases dp_int a3
    exact ⟨_, _, s, n, cs, g, x, rfl, a1, a2, ok, hn, pl, h0, h1, k⟩
abbrev s_stretch_of : Stmt := topS 28
theorem sc_stretch_of : FnScope ["plan", "signs", "stretch", "sign"] ["plan", "signs"] (defScope s_stretch_of) := ⟨rfl, rfl, rfl, by decide +kernel, rfl, by decide +kernel, by decide +kernel⟩

def stretchF : List PyData → Except Err PyData
  | [d, x] => if isPlan d then (if isWholeList x 60 0 (((countsOf d).length : Int) - 1) then .ok (textS (countsOf d) (gainOf d) (itemsOf x)).d else .error .sign) else .error .plan
  | _ => .ok .none
abbrev sp_stretch_of (K : PySem.W.Frag) : Sp := PSpX K 2 stretchF
theorem stretch_noplan {d x : PyData} (h : isPlan d = false) : stretchF [d, x] = .error .plan := if_neg (by rw [h]; exact Bool.false_ne_true)
theorem stretch_no {cs : List Int} {g : Int} {x : PyData} (p : Plan cs g) (h : isWholeList x 60 0 ((cs.length : Int) - 1) = false) : stretchF [planD cs g, x] = .error .sign := by
  show (if isPlan (planD cs g) = true then _ else _) = _
  rw [if_pos (isPlan_of p), counts_planD, if_neg (by rw [h]; exact Bool.false_ne_true)]
theorem stretch_yes {cs : List Int} {g : Int} {ss : List Int} (p : Plan cs g) (h : Text cs.length ss) : stretchF [planD cs g, .list (ss.map PyData.int)] = .ok (textS cs g ss).d := by
  show (if isPlan (planD cs g) = true then _ else _) = _
  rw [if_pos (isPlan_of p), counts_planD, if_pos (isText_of h), gain_planD]
  show Except.ok (textS cs g ((ss.map PyData.int).map toI)).d = _
  rw [toI_map]
theorem signs_err {d x : PyData} {e : Err} (h : needSignsF [d, x] = .error e) : stretchF [d, x] = .error e := by
  cases hp : isPlan d with
  | false =>
    rw [signs_noplan hp] at h
    rw [stretch_noplan hp]
    exact h
  | true =>
    obtain ⟨cs, g, rfl, pl⟩ := isPlan_ok hp
    cases hx : isWholeList x 60 0 ((cs.length : Int) - 1) with
    | false =>
      rw [signs_no pl hx] at h
      rw [stretch_no pl hx]
      exact h
    | true =>
      rw [signs_yes pl hx] at h
      cases h
theorem ok_stretch_of (F : FnP K "stretch_of" s_stretch_of f fd) (c_need_signs : Cal P w K mg base (L2N.CX P w) 4 "need_signs" ["plan", "signs"] (sp_need_signs K)) (c_stepped : Cal P w K mg base CX0 6 "stepped" ["stretch", "plan", "sign"] (sp_stepped K)) (g_WHOLE : mg "WHOLE" = some (.ref (He.ga K "WHOLE"))) (t_WHOLE : ∀ H, SqT K H (He.ga K "WHOLE") [.int 0, .int 1, .int 1]) :
    FnOk P w K mg base (L2N.CX P w) 7 f fd ["plan", "signs"] (sp_stretch_of K) := by
  refine F.ok sc_stretch_of (fun vs H Q E h => len1 h) (fun cdv A outer s H vs Q E hr h => ?_)
  obtain ⟨ds, hds, hl, kQ, kE⟩ := h
  obtain ⟨d, x, rfl⟩ : ∃ d x, ds = [d, x] := match ds, hl with | [d, x], _ => ⟨d, x, rfl⟩
  cases hds with
  | cons hd hn =>
  cases hn with
  | cons hx hn =>
  cases hn
  rename_i v u
  refine ⟨_, (pss_hold (ps_expr (pe_fX c_need_signs (hr.mono (by decide)) (L2N.takes_of rfl rfl rfl rfl) (pa_cons (pv 0) (pa_cons (pv 1) pa_nil))))
      (pss_hold (ps_set (i := 2) sc_stretch_of.nd rfl (Or.inl rfl) (pe_glob (v := .ref _) rfl g_WHOLE rfl))
      (pss_hold (ps_for (passes_of rfl) rfl (pi_listK (K := K) rfl (pv 1)) (pg_name (i := 3) sc_stretch_of.nd rfl (.inl rfl)) (pss_one (ps_asg (pe_f c_stepped (hr.mono (by decide)) (pa_cons (pv 2) (pa_cons (pv 0) (pa_cons (pv 3) pa_nil)))) (pg_tupK (K := K) (n := 2) rfl rfl (pgs_cons (pg_name (i := 2) sc_stretch_of.nd rfl (.inl rfl)) (pgs_cons (pg_name (i := 0) sc_stretch_of.nd rfl (.inl rfl)) pgs_nil))))))
      (pss_one (ps_ret (pv 2)))))), ?_⟩
  refine dropX (eds_cons (evd_var rfl hd) (eds_cons (evd_var rfl hx) eds_nil)) rfl (fun r H1 hr s1 => ?_) (fun e H1 he s1 => ?_)
  · obtain ⟨cs, g, ss, rfl, pl, rfl, tx⟩ := signs_ok hr
    obtain ⟨a, xs, rfl, hs, hxs⟩ : ∃ a xs, u = .ref a ∧ SqL K H1 a xs ∧ xs = ss.map V.int := by
      cases dp_same s1 _ _ hx with
      | lst hs ha => exact ⟨_, _, rfl, hs, dpa_ints_eq ha⟩
    subst hxs
    have dv1 := dp_same s1 _ _ hd
    have hss : ∀ s ∈ ss, 0 ≤ s ∧ s < cs.length := fun s hs => by have := tx.2 s hs; omega
    refine hold (asgV ev_c fun H2 s2 => ?_)
    refine hold (forL (xs := ss.map V.int) (ev_var rfl) (s2.seq hs) (fun i σ' H' => ∃ v2 v3 y, σ' = [some v2, some (.ref a), some v3, y] ∧ Same H2 H' ∧ Dp K H' v2 (planD (after cs g (ss.take i)) g) ∧ Dp K H' v3 (textS cs g (ss.take i)).d)
      (fun H3 s3 => ⟨_, _, _, rfl, s3, dp_same (s2.trans s3) _ _ dv1, .tup (t_WHOLE H3) (.cons (.int 0) (.cons (.int 1) (.cons (.int 1) .nil)))⟩) (fun i σ' H' ⟨_, _, _, _, sm, _⟩ => (s2.trans sm).seq hs) ?_ ?_)
    · rintro i x σ' H' hi ⟨v2, v3, y, rfl, sm, h2, h3⟩
      obtain ⟨s, es, rfl⟩ : ∃ s, ss[i]? = some s ∧ x = V.int s := by
        rw [List.getElem?_map] at hi
        cases e : ss[i]? with
        | none => rw [e] at hi; cases hi
        | some s => rw [e] at hi; exact ⟨s, rfl, (Option.some.inj hi).symm⟩
      obtain ⟨pa, la⟩ := after_ok pl (ss := ss.take i) fun t ht => hss t (List.mem_of_mem_take ht)
      have hsm := hss s (List.mem_of_getElem? es)
      have eA := after_snoc cs g (ss.take i) s
      have eS := strOf_snoc g s (ss.take i) whole3 cs
      rw [← take_snoc es] at eA eS
      have ok1 : (textS cs g (ss.take i)).Ok 1400 := textS_ok pl ⟨by rw [List.length_take]; have := tx.1; omega, fun t ht => tx.2 t (List.mem_of_mem_take ht)⟩
      change textS cs g (ss.take (i + 1)) = (textS cs g (ss.take i)).by _ _ _ at eS
      generalize after cs g (ss.take i) = ca at h2 pa la eA eS
      generalize textS cs g (ss.take i) = st at h3 ok1 eS
      have h0 : 0 ≤ s := hsm.1
      have h1 : s < ca.length := by rw [la]; exact hsm.2
      refine unp2Lx (evd_stepped (evd_var rfl h3) (evd_var rfl h2) (ev_var rfl) ok1 (by omega) pa h0 h1) fun v4 v5 G1 r1 d4 d5 => ?_
      refine ⟨v5, v4, _, rfl, sm.trans r1, ?_, ?_⟩
      · rw [eA]
        exact d5
      · rw [eS]
        exact d4
    · rintro σ' H' ⟨v2, v3, y, rfl, sm, h2, h3⟩
      rw [List.length_map, List.take_length] at h3
      exact hold (retD (evd_var rfl h3) fun v4 H4 s4 d4 => kQ _ (stretch_yes pl tx) v4 H4 (((s1.trans s2).trans sm).trans s4) d4)
  · exact kE e (signs_err he) H1 s1
end

section
variable {P : Program} {w : World} {K : PySem.W.Frag} {mg : Str → Option Value} {base : Heap} {f : Addr} {fd : FuncData}
abbrev s_need_figures : Stmt := topS 30
theorem sc_need_figures : FnScope ["figures"] ["figures"] (defScope s_need_figures) := ⟨rfl, rfl, rfl, by decide +kernel, rfl, by decide +kernel, by decide +kernel⟩

def needFiguresF : List PyData → Except Err PyData
  | [x] => if isWholeList x 4000 0 1 then .ok .none else .error .figures
  | _ => .ok .none
abbrev sp_need_figures (K : PySem.W.Frag) : Sp := PSpX K 1 needFiguresF
theorem ok_need_figures (F : FnP K "need_figures" s_need_figures f fd) (c_is_whole_list : Cal P w K mg base CX0 3 "is_whole_list" ["values", "longest", "least", "most"] (sp_is_whole_list K)) (x_BadFigures : Exn K mg .figures) {u4 : Tok} (g_MOST_FIGURES : mg "MOST_FIGURES" = some (.int 4000 u4)) :
    FnOk P w K mg base (L2N.CX P w) 4 f fd ["figures"] (sp_need_figures K) := by
  refine F.ok sc_need_figures (fun vs H Q E h => len1 h) (fun cdv A outer s H vs Q E hr h => ?_)
  obtain ⟨ds, hds, hl, kQ, kE⟩ := h
  obtain ⟨d, rfl⟩ : ∃ d, ds = [d] := match ds, hl with | [d], _ => ⟨d, rfl⟩
  cases hds with
  | cons hd hn =>
  cases hn
  rename_i v
  refine ⟨_, (pss_one (ps_if (pt_not (pt_val (pe_f c_is_whole_list (hr.mono (by decide)) (pa_cons (pv 0) (pa_cons (pe_glob (v := .int 4000) rfl g_MOST_FIGURES ⟨_, rfl⟩) (pa_cons pe_int (pa_cons pe_int pa_nil))))))) (pss_one (L2N.ps_raise rfl (L2N.takes_of rfl rfl rfl rfl) (L2N.pmk_own PySem.F.excBase_ValueError x_BadFigures.x x_BadFigures.g x_BadFigures.k (raises_own x_BadFigures.b x_BadFigures.t) rfl))) pss_nil)), ?_⟩
  walk_at "rd"
  refine ⟨v, d, 4000, 0, 1, rfl, by decide, hd, fun H1 s1 => ⟨_, rfl, ?_⟩⟩
  have e0 : needFiguresF [d] = if isWholeList d 4000 0 1 = true then .ok .none else .error .figures := rfl
  cases ew : isWholeList d 4000 0 1 with
  | false =>
    rw [ew] at e0
    exact iteT (kE .figures e0 H1 s1)
  | true =>
    rw [ew] at e0
    exact iteF (kQ _ e0 .non H1 s1 .non)
abbrev s_lengthened : Stmt := topS 31
theorem sc_lengthened : FnScope ["stretch", "figures", "number", "wide", "parts", "figure"] ["stretch", "figures"] (defScope s_lengthened) := ⟨rfl, rfl, rfl, by decide +kernel, rfl, by decide +kernel, by decide +kernel⟩

def sp_lengthened (K : PySem.W.Frag) : Sp := fun vs H Q _ => ∃ (v u : V) (as fs : List Int), vs = [v, u] ∧ Dp K H v (figS as).d ∧ Dp K H u (.list (fs.map PyData.int)) ∧ ∀ v' H', Same H H' → Dp K H' v' (figS (as ++ fs)).d → Q v' H'
theorem ok_lengthened (F : FnP K "lengthened" s_lengthened f fd) : FnOk P w K mg base CX0 1 f fd ["stretch", "figures"] (sp_lengthened K) := by
  refine F.ok sc_lengthened (fun vs H Q E h => ?_) (fun cdv A outer s H vs Q E hr h => ?_)
  · obtain ⟨_, _, _, _, rfl, _⟩ := h
    rfl
  · obtain ⟨v, u, as, fs, rfl, hv, hx, k⟩ := h
    refine ⟨_, PSs.nox (pss_hold (ps_asg (pv 0) (pg_tupK (K := K) (n := 3) rfl rfl (pgs_cons (pg_name (i := 2) sc_lengthened.nd rfl (.inl rfl)) (pgs_cons (pg_name (i := 3) sc_lengthened.nd rfl (.inl rfl)) (pgs_cons (pg_name (i := 4) sc_lengthened.nd rfl (.inl rfl)) pgs_nil)))))
      (pss_hold (ps_for PassesOwn.never rfl (pi_listK (K := K) rfl (pv 1)) (pg_name (i := 5) sc_lengthened.nd rfl (.inl rfl)) (pss_hold (ps_set (i := 2) sc_lengthened.nd rfl (Or.inl rfl) (pe_op op_add (pe_op op_mul pe_int (pv 2)) (pv 5)))
      (pss_one (ps_set (i := 4) sc_lengthened.nd rfl (Or.inl rfl) (pe_op op_mul pe_int (pv 4))))))
      (pss_one (ps_ret (pe_tup (pa_cons (pv 2) (pa_cons (pv 3) (pa_cons (pv 4) pa_nil)))))))), ?_⟩
    obtain ⟨a, xs, rfl, hs, hxs⟩ : ∃ a xs, u = .ref a ∧ SqL K H a xs ∧ xs = fs.map V.int := by
      cases hx with
      | lst hs ha => exact ⟨_, _, rfl, hs, dpa_ints_eq ha⟩
    subst hxs
    refine unpS (evd_var rfl hv) fun H1 s1 => ?_
    refine hold (forL (xs := fs.map V.int) (ev_var rfl) (s1.seq hs) (fun i σ' H' => ∃ y, σ' = [some v, some (.ref a), some (.int (numOf (as ++ fs.take i))), some (.int 1), some (.int (2 ^ (as.length + i))), y] ∧ Same H1 H')
      (fun H4 s4 => ⟨_, by rw [List.take_zero, List.append_nil]; rfl, s4⟩) (fun i σ' H' ⟨_, _, sm⟩ => (s1.trans sm).seq hs) ?_ ?_)
    · rintro i x σ' H' hi ⟨y, rfl, sm⟩
      obtain ⟨b, eb, rfl⟩ := get_int hi
      refine asgV (ev_op0 (ev_op ev_c (ev_var rfl) (cmul_l (by omega))) (ev_var rfl)) fun G1 r1 => hold (asgLast (ev_op ev_c (ev_var rfl) (cmul_l (by omega))) fun G2 r2 => ?_)
      refine ⟨some (.int b), ?_, (sm.trans r1).trans r2⟩
      rw [numOf_moreX as fs i eb, ← Nat.add_assoc, Int.pow_succ, Int.mul_comm (2 ^ (as.length + i)) 2]
      rfl
    · rintro σ' H' ⟨y, rfl, sm⟩
      rw [List.length_map, List.take_length]
      refine hold (retD (d := (figS (as ++ fs)).d) (EvD.is (evd_tup (eds_cons (evd_var rfl (.int _)) (eds_cons (evd_var rfl (.int _)) (eds_cons (evd_var rfl (.int _)) eds_nil))) (by show 3 ≤ 100000; omega)) ?_) fun v4 H4 s4 d4 => k v4 H4 ((s1.trans sm).trans s4) d4)
      unfold figS S3.d
      rw [List.length_append]
theorem evd_lengthened {K : PySem.W.Frag} {ta tb : TE} {σ : L2.St} {H : Hp} {as fs : List Int} (h : EvD K ta σ H (figS as).d) (h2 : EvD K tb σ H (.list (fs.map PyData.int))) : EvD K (tCall (sp_lengthened K) [] E0 (tCons ta (tCons tb tNil))) σ H (figS (as ++ fs)).d :=
  evd_call (eds_cons h (eds_cons h2 eds_nil)) fun vs H1 Q s1 d1 k => by
    obtain ⟨v, u, rfl, a1, a2⟩ := dpaN2 d1
    exact ⟨_, _, as, fs, rfl, a1, a2, k⟩
end

section
variable {P : Program} {w : World} {K : PySem.W.Frag} {mg : Str → Option Value} {base : Heap} {f : Addr} {fd : FuncData}
abbrev s__law_stretch : Stmt := topS 52
theorem sc__law_stretch : FnScope ["_law_plan_here", "_law_signs_here", "_law_low", "_law_wide", "_law_whole_here", "_law_sign", "_law_total"] ["_law_plan_here", "_law_signs_here"] (defScope s__law_stretch) := ⟨rfl, rfl, rfl, by decide +kernel, rfl, by decide +kernel, by decide +kernel⟩

def sp_lstretch (K : PySem.W.Frag) : Sp := fun vs H Q _ => ∃ (v u : V) (cs : List Int) (g : Int) (ss : List Int), vs = [v, u] ∧ Dp K H v (planD cs g) ∧ Plan cs g ∧ Dp K H u (.list (ss.map PyData.int)) ∧ Text cs.length ss ∧ ∀ v' H', Same H H' → Dp K H' v' (textS cs g ss).d → Q v' H'
theorem ok_lstretch (F : FnP K "_law_stretch" s__law_stretch f fd) (c__law_behind : Cal P w K mg base CX0 1 "_law_behind" ["_law_plan_here", "_law_sign"] (sp_lbehind K)) (z_sum : mg "sum" = none) : FnOk P w K mg base CX0 2 f fd ["_law_plan_here", "_law_signs_here"] (sp_lstretch K) := by
  refine F.ok sc__law_stretch (fun vs H Q E h => ?_) (fun cdv A outer s H vs Q E hr h => ?_)
  · obtain ⟨_, _, _, _, _, rfl, _⟩ := h
    rfl
  · obtain ⟨v, u, cs, g, ss, rfl, hd, pl, hx, tx, q⟩ := h
    refine ⟨_, PSs.nox (pss_hold (ps_asg (pe_tup (pa_cons pe_int (pa_cons pe_int (pa_cons pe_int pa_nil)))) (pg_tupK (K := K) (n := 3) rfl rfl (pgs_cons (pg_name (i := 2) sc__law_stretch.nd rfl (.inl rfl)) (pgs_cons (pg_name (i := 3) sc__law_stretch.nd rfl (.inl rfl)) (pgs_cons (pg_name (i := 4) sc__law_stretch.nd rfl (.inl rfl)) pgs_nil)))))
      (pss_hold (ps_for PassesOwn.never rfl (pi_listK (K := K) rfl (pv 1)) (pg_name (i := 5) sc__law_stretch.nd rfl (.inl rfl)) (pss_hold (ps_set (i := 6) sc__law_stretch.nd rfl (Or.inl rfl) (pe_callB (sumTK (K := K) rfl rfl) (by rfl) z_sum (by decide +kernel) (pa_cons (pe_ix (ix_tupK (K := K) rfl) (pv 0) pe_int (fun _ _ => rfl)) pa_nil)))
      (pss_hold (ps_set (i := 2) sc__law_stretch.nd rfl (Or.inl rfl) (pe_op op_add (pe_op op_mulW (pv 2) (pv 6)) (pe_op op_mulW (pv 3) (pe_callB (sumTK (K := K) rfl rfl) (by rfl) z_sum (by decide +kernel) (pa_cons (pe_slice (sl_tupK (K := K) rfl) (pe_ix (ix_tupK (K := K) rfl) (pv 0) pe_int (fun _ _ => rfl)) po_none (po_some (pv 5))) pa_nil)))))
      (pss_hold (ps_set (i := 3) sc__law_stretch.nd rfl (Or.inl rfl) (pe_op op_mulW (pv 3) (pe_ix (ix_tupK (K := K) rfl) (pe_ix (ix_tupK (K := K) rfl) (pv 0) pe_int (fun _ _ => rfl)) (pv 5) (fun _ _ => rfl))))
      (pss_hold (ps_set (i := 4) sc__law_stretch.nd rfl (Or.inl rfl) (pe_op op_mulW (pv 4) (pv 6)))
      (pss_one (ps_set (i := 0) sc__law_stretch.nd rfl (Or.inl rfl) (pe_f c__law_behind (hr.mono (by decide)) (pa_cons (pv 0) (pa_cons (pv 5) pa_nil))))))))))
      (pss_one (ps_ret (pe_tup (pa_cons (pv 2) (pa_cons (pv 3) (pa_cons (pv 4) pa_nil)))))))), ?_⟩
    obtain ⟨a, xs, rfl, hs, hxs⟩ : ∃ a xs, u = .ref a ∧ SqL K H a xs ∧ xs = ss.map V.int := by
      cases hx with
      | lst hs ha => exact ⟨_, _, rfl, hs, dpa_ints_eq ha⟩
    subst hxs
    have hss : ∀ s ∈ ss, 0 ≤ s ∧ s < cs.length := fun s hs => by have := tx.2 s hs; omega
    refine unpS (s := whole3) (evd_tup (eds_cons evd_int (eds_cons evd_int (eds_cons evd_int eds_nil))) (by show 3 ≤ 100000; omega)) fun H1 s1 => ?_
    refine hold (forL (xs := ss.map V.int) (ev_var rfl) (s1.seq hs) (fun i σ' H' => ∃ v2 y1 y2, σ' = [some v2, some (.ref a), some (.int (textS cs g (ss.take i)).l), some (.int (textS cs g (ss.take i)).w), some (.int (textS cs g (ss.take i)).t), y1, y2] ∧ Same H1 H' ∧ Dp K H' v2 (planD (after cs g (ss.take i)) g))
      (fun H3 s3 => ⟨_, _, _, rfl, s3, dp_same (s1.trans s3) _ _ hd⟩) (fun i σ' H' ⟨_, _, _, _, sm, _⟩ => (s1.trans sm).seq hs) ?_ ?_)
    · rintro i x σ' H' hi ⟨v2, y1, y2, rfl, sm, h2⟩
      obtain ⟨s, es, rfl⟩ := get_int hi
      obtain ⟨pa, la⟩ := after_ok pl (ss := ss.take i) fun t ht => hss t (List.mem_of_mem_take ht)
      have hsm := hss s (List.mem_of_getElem? es)
      have eA := after_snoc cs g (ss.take i) s
      have eS := strOf_snoc g s (ss.take i) whole3 cs
      rw [← take_snoc es] at eA eS
      have ok1 : (textS cs g (ss.take i)).Ok 1400 := textS_ok pl ⟨by rw [List.length_take]; have := tx.1; omega, fun t ht => tx.2 t (List.mem_of_mem_take ht)⟩
      change textS cs g (ss.take (i + 1)) = (textS cs g (ss.take i)).by _ _ _ at eS
      generalize after cs g (ss.take i) = ca at h2 pa la eA eS
      generalize textS cs g (ss.take i) = st at ok1 eS ⊢
      have h0 : 0 ≤ s := hsm.1
      have h1 : s < ca.length := by rw [la]; exact hsm.2
      have sa := (plan_share pa h0 h1).abs
      have hnth := data_nth h0 h1
      refine asgV (ev_sumT (evd_ixT (ds := [.tuple (ca.map PyData.int), .int g]) (n := 0) (evd_var rfl h2) ev_c (by decide) rfl)) fun G1 r1 => ?_
      have h3 := dp_same r1 _ _ h2
      refine hold (asgV (ev_op0 (ev_op (ev_var rfl) (ev_var rfl) (wmul ok1.labs sa.2.2 (by omega))) (ev_op (ev_var rfl) (ev_sumT (evd_takeI (evd_ixT (ds := [.tuple (ca.map PyData.int), .int g]) (n := 0) (evd_var rfl h3) ev_c (by decide) rfl) (ev_var rfl) h0 (by omega))) (wmul ok1.wabs sa.1 (by omega)))) fun G2 r2 => ?_)
      have h4 := dp_same r2 _ _ h3
      refine hold (asgV (ev_op (ev_var rfl) (EvD.v_int (evd_ixT (evd_ixT (ds := [.tuple (ca.map PyData.int), .int g]) (n := 0) (evd_var rfl h4) ev_c (by decide) rfl) (ev_var rfl) h0 hnth)) (wmul ok1.wabs sa.2.1 (by omega))) fun G3 r3 => ?_)
      refine hold (asgV (ev_op (ev_var rfl) (ev_var rfl) (wmul ok1.tabs sa.2.2 (by omega))) fun G4 r4 => ?_)
      refine hold (asgLastD (evd_lbehind (evd_var rfl (dp_same (r3.trans r4) _ _ h4)) (ev_var rfl) pa h0 h1) fun v5 G5 r5 d5 => ?_)
      refine ⟨v5, some (.int s), some (.int ca.sum), ?_, ((((sm.trans r1).trans r2).trans r3).trans r4).trans r5, ?_⟩
      · rw [eS]
        rfl
      · rw [eA]
        exact d5
    · rintro σ' H' ⟨v2, y1, y2, rfl, sm, h2⟩
      rw [List.length_map, List.take_length]
      exact hold (retD (d := (textS cs g ss).d) (evd_tup (eds_cons (evd_var rfl (.int _)) (eds_cons (evd_var rfl (.int _)) (eds_cons (evd_var rfl (.int _)) eds_nil))) (by show 3 ≤ 100000; omega)) fun v4 H4 s4 d4 => q v4 H4 ((s1.trans sm).trans s4) d4)
abbrev s__law_within : Stmt := topS 53
theorem sc__law_within : FnScope ["_law_one", "_law_other", "_law_first", "_law_last"] ["_law_one", "_law_other"] (defScope s__law_within) := ⟨rfl, rfl, rfl, by decide +kernel, rfl, by decide +kernel, by decide +kernel⟩

theorem ok_lwithin (F : FnP K "_law_within" s__law_within f fd) : FnOk P w K mg base CX0 1 f fd ["_law_one", "_law_other"] (sp_within K) := by
  refine F.ok sc__law_within (fun vs H Q E h => ?_) (fun cdv A outer s H vs Q E hr h => ?_)
  · obtain ⟨_, _, _, _, _, _, rfl, _⟩ := h
    rfl
  · obtain ⟨v, u, s, t, n, m, rfl, hv, hu, ok, ok2, hn, k⟩ := h
    refine ⟨_, PSs.nox (pss_hold (ps_set (i := 2) sc__law_within.nd rfl (Or.inl rfl) (pe_op op_sub (pe_op op_mulW (pe_ix (ix_tupK (K := K) rfl) (pv 0) pe_int (fun _ _ => rfl)) (pe_ix (ix_tupK (K := K) rfl) (pv 1) pe_int (fun _ _ => rfl))) (pe_op op_mulW (pe_ix (ix_tupK (K := K) rfl) (pv 1) pe_int (fun _ _ => rfl)) (pe_ix (ix_tupK (K := K) rfl) (pv 0) pe_int (fun _ _ => rfl)))))
      (pss_hold (ps_set (i := 3) sc__law_within.nd rfl (Or.inl rfl) (pe_op op_sub (pe_op op_mulW (pe_op op_add (pe_ix (ix_tupK (K := K) rfl) (pv 1) pe_int (fun _ _ => rfl)) (pe_ix (ix_tupK (K := K) rfl) (pv 1) pe_int (fun _ _ => rfl))) (pe_ix (ix_tupK (K := K) rfl) (pv 0) pe_int (fun _ _ => rfl))) (pe_op op_mulW (pe_op op_add (pe_ix (ix_tupK (K := K) rfl) (pv 0) pe_int (fun _ _ => rfl)) (pe_ix (ix_tupK (K := K) rfl) (pv 0) pe_int (fun _ _ => rfl))) (pe_ix (ix_tupK (K := K) rfl) (pv 1) pe_int (fun _ _ => rfl)))))
      (pss_one (ps_ret (pe_and (pe_cmpR op_ge (pv 2) pe_int (nomark _)) (pe_one (pe_cmpR op_ge (pv 3) pe_int (nomark _)))))))), ?_⟩
    have ix : ∀ (j : Nat) {H1 : Hp} {σ : L2.St} {i : Nat} {x : V} {r : S3} (z : Int), σ[i]? = some (some x) → Dp K H1 x r.d → [PyData.int r.l, .int r.w, .int r.t][j]? = some (.int z) → EvV (tOp (rIxT K) (tVar i) (tC (.int (j : Int)))) σ H1 (.int z) := fun j _ _ _ _ _ z e d h =>
      EvD.v_int (evd_ixT (evd_var e d) ev_c (by omega) (by rw [Int.toNat_natCast]; exact h))
    refine asgV (ev_op0 (ev_op (ix 0 s.l rfl hv rfl) (ix 2 t.t rfl hu rfl) (wmul ok.labs ok2.tabs (by omega))) (ev_op (ix 0 t.l rfl hu rfl) (ix 2 s.t rfl hv rfl) (wmul ok2.labs ok.tabs (by omega)))) fun H1 s1 => ?_
    have hv1 := dp_same s1 _ _ hv
    have hu1 := dp_same s1 _ _ hu
    refine hold (asgV (ev_op0 (ev_op (ev_op0 (ix 0 t.l rfl hu1 rfl) (ix 1 t.w rfl hu1 rfl)) (ix 2 s.t rfl hv1 rfl) (wmul ok2.lwabs ok.tabs (by omega))) (ev_op (ev_op0 (ix 0 s.l rfl hv1 rfl) (ix 1 s.w rfl hv1 rfl)) (ix 2 t.t rfl hu1 rfl) (wmul ok.lwabs ok2.tabs (by omega)))) fun H2 s2 => ?_)
    refine hold (retV (v := .bl (withinB s t)) (EvV.is (ev_and (ev_op0 (ev_var rfl) ev_c) fun _ => ev_op0 (ev_var rfl) ev_c) ?_) fun H3 s3 => k H3 ((s1.trans s2).trans s3))
    unfold withinB
    congr 1
    rw [Bool.eq_iff_iff]
    simp only [Bool.and_eq_true, Bool.not_eq_true', decide_eq_true_eq, decide_eq_false_iff_not]
    omega
end
section
variable {P : Program} {w : World} {K : PySem.W.Frag} {mg : Str → Option Value} {base : Heap} {f fW : Addr} {fd fdW : FuncData}
theorem evd_lstretch {ta tb : TE} {σ : L2.St} {H : Hp} {cs ss : List Int} {g : Int} (h : EvD K ta σ H (planD cs g)) (h2 : EvD K tb σ H (.list (ss.map PyData.int))) (pl : Plan cs g) (tx : Text cs.length ss) : EvD K (tCall (sp_lstretch K) [] E0 (tCons ta (tCons tb tNil))) σ H (textS cs g ss).d :=
  evd_call (eds_cons h (eds_cons h2 eds_nil)) fun vs H1 Q s1 d1 k => by
    cases d1 with
    | cons a1 a2 => cases a2 with
      | cons a2 a3 =>
        cases a3
        exact ⟨_, _, cs, g, ss, rfl, a1, pl, a2, tx, k⟩
end

section
variable {P : Program} {w : World} {K : PySem.W.Frag} {mg : Str → Option Value} {base : Heap} {f : Addr} {fd : FuncData}
abbrev s__fewest : Stmt := topS 36
theorem sc__fewest : FnScope ["stretch", "_", "wide", "parts", "many"] ["stretch"] (defScope s__fewest) := ⟨rfl, rfl, rfl, by decide +kernel, rfl, by decide +kernel, by decide +kernel⟩

def sp_fewest (K : PySem.W.Frag) : Sp := fun vs H Q _ => ∃ (v : V) (s : S3), vs = [v] ∧ Dp K H v s.d ∧ s.Good ∧ ∀ k H', WideK s k → Same H H' → Q (.int (k : Int)) H'
theorem ok_fewest (F : FnP K "_fewest" s__fewest f fd) : FnOk P w K mg base CX0 1 f fd ["stretch"] (sp_fewest K) := by
  refine F.ok sc__fewest (fun vs H Q E h => ?_) (fun cdv A outer s H vs Q E hr h => ?_)
  · obtain ⟨_, _, rfl, _⟩ := h
    rfl
  · obtain ⟨v, s, rfl, hv, gd, q⟩ := h
    refine ⟨_, PSs.nox (pss_hold (ps_asg (pv 0) (pg_tupK (K := K) (n := 3) rfl rfl (pgs_cons (pg_name (i := 1) sc__fewest.nd rfl (.inl rfl)) (pgs_cons (pg_name (i := 2) sc__fewest.nd rfl (.inl rfl)) (pgs_cons (pg_name (i := 3) sc__fewest.nd rfl (.inl rfl)) pgs_nil)))))
      (pss_hold (ps_set (i := 4) sc__fewest.nd rfl (Or.inl rfl) pe_int)
      (pss_hold (ps_while PassesOwn.never (pt_cmpR op_lt (pv 2) (pv 3) (nomark _)) (pss_hold (ps_set (i := 2) sc__fewest.nd rfl (Or.inl rfl) (pe_op op_mul pe_int (pv 2)))
      (pss_one (ps_aug (i := 4) sc__fewest.nd rfl (Or.inl rfl) pe_int ip_add))))
      (pss_one (ps_ret (pv 4)))))), ?_⟩
    refine unpS (evd_var rfl hv) fun H1 s1 => hold (asgV ev_c fun H2 s2 => hold ?_)
    refine whileI (fun n σ' H' => ∃ k : Nat, σ' = [some v, some (.int s.l), some (.int (s.w * 2 ^ k)), some (.int s.t), some (.int (k : Int))] ∧ Same H2 H' ∧ (∀ j, j < k → s.w * 2 ^ j < s.t) ∧ n = (s.t - s.w * 2 ^ k).toNat) _ ⟨0, by rw [Int.pow_zero, Int.mul_one]; rfl, Same.refl _, fun j hj => absurd hj (Nat.not_lt_zero j), rfl⟩ ?_
    rintro n σ' H' ⟨k, rfl, sm, lt, rfl⟩
    refine ⟨decide (s.w * 2 ^ k < s.t), evb_test (ev_op0 (g := fun i j => V.bl (decide (i < j))) (ev_var rfl) (ev_var rfl)), fun c H3 s3 => ?_, fun c H3 s3 => ?_⟩
    · have hlt := of_decide_eq_true c
      refine asgV (ev_op ev_c (ev_var rfl) (cmul_l (by omega))) fun H4 s4 => hold ?_
      refine ⟨_, rfl, _, _, rfl, rfl, _, ?_, k + 1, ?_, (sm.trans s3).trans s4, fun j hj => ?_, rfl⟩
      · have p := pow2_pos k
        have m := Int.mul_le_mul_of_nonneg_right gd.w1 (show (0 : Int) ≤ 2 ^ k by omega)
        rw [Int.pow_succ, ← Int.mul_assoc]
        omega
      · have e2 : s.w * 2 ^ (k + 1) = 2 * (s.w * 2 ^ k) := by rw [Int.pow_succ, ← Int.mul_assoc, Int.mul_comm]
        rw [e2, Int.natCast_add]
        rfl
      · rcases Nat.lt_or_ge j k with z | z
        · exact lt j z
        · have e : j = k := by omega
          rw [e]
          exact hlt
    · have hge := of_decide_eq_false c
      exact hold (retV (ev_var rfl) fun H4 s4 => q k H4 ⟨by omega, lt⟩ ((((s1.trans s2).trans sm).trans s3).trans s4))
abbrev s__first_number : Stmt := topS 37
theorem sc__first_number : FnScope ["stretch", "many", "low", "_", "parts"] ["stretch", "many"] (defScope s__first_number) := ⟨rfl, rfl, rfl, by decide +kernel, rfl, by decide +kernel, by decide +kernel⟩

def sp_first (K : PySem.W.Frag) : Sp := fun vs H Q _ => ∃ (v : V) (s : S3) (n k : Nat), vs = [v, .int (k : Int)] ∧ Dp K H v s.d ∧ s.Ok n ∧ 0 < n ∧ n ≤ 9000 ∧ k ≤ 9000 ∧ ∀ H', Same H H' → Q (.int (firstK s k)) H'
theorem ok_first (F : FnP K "_first_number" s__first_number f fd) : FnOk P w K mg base CX0 1 f fd ["stretch", "many"] (sp_first K) := by
  refine F.ok sc__first_number (fun vs H Q E h => ?_) (fun cdv A outer s H vs Q E hr h => ?_)
  · obtain ⟨_, _, _, _, rfl, _⟩ := h
    rfl
  · obtain ⟨v, s, n, k, rfl, hv, ok, h0, hn, hk, q⟩ := h
    refine ⟨_, PSs.nox (pss_hold (ps_asg (pv 0) (pg_tupK (K := K) (n := 3) rfl rfl (pgs_cons (pg_name (i := 2) sc__first_number.nd rfl (.inl rfl)) (pgs_cons (pg_name (i := 3) sc__first_number.nd rfl (.inl rfl)) (pgs_cons (pg_name (i := 4) sc__first_number.nd rfl (.inl rfl)) pgs_nil)))))
      (pss_one (ps_ret (pe_op op_fdivW (pe_op op_sub (pe_op op_add (pe_op op_shlP (pv 2) (pv 1)) (pv 4)) pe_int) (pv 4))))), ?_⟩
    refine unpS (evd_var rfl hv) fun H1 s1 => hold (retV (v := .int (firstK s k)) (EvV.is (ev_op (C := CDivW) (g := fun i j => V.int (i / j)) (ev_op0 (ev_op0 (ev_shl (ev_var rfl) (ev_var rfl) (shl_ok ok.labs (by omega))) (ev_var rfl)) ev_c) (ev_var rfl) (wide_div (by have := ok.t1; omega) ok.tabs h0 hn)) rfl) fun H2 s2 => q H2 (s1.trans s2))
abbrev s__by_twos : Stmt := topS 38
theorem sc__by_twos : FnScope ["number", "many", "place"] ["number", "many"] (defScope s__by_twos) := ⟨rfl, rfl, rfl, by decide +kernel, rfl, by decide +kernel, by decide +kernel⟩

def sp_by_twos (K : PySem.W.Frag) : Sp := fun vs H Q _ => ∃ (x : Int) (k : Nat), vs = [.int x, .int (k : Int)] ∧ k ≤ 9000 ∧ ∀ p H', H p = none → Same H H' → H' p = some (.lst ((bitsOf k x).map V.int)) → Q (.ref p) H'
theorem ok_by_twos (F : FnP K "_by_twos" s__by_twos f fd) (z_range : mg "range" = none) (z_reversed : mg "reversed" = none) : FnOk P w K mg base CX0 1 f fd ["number", "many"] (sp_by_twos K) := by
  refine F.ok sc__by_twos (fun vs H Q E h => ?_) (fun cdv A outer s H vs Q E hr h => ?_)
  · obtain ⟨_, _, rfl, _⟩ := h
    rfl
  · obtain ⟨x, k, rfl, hk, q⟩ := h
    refine ⟨_, PSs.nox (pss_one (ps_ret (pe_lc (own := [("place", 2)]) (g := gName 2) rfl sc__by_twos.nd (pi_revR rfl z_reversed (prg_1 rfl z_range (pv 1))) (blkOk_by (own := [("place", 2)]) (N := ["number", "many", "place"]) (sc := defScope s__by_twos) (by decide +kernel)) (fun _ _ _ _ _ => pg_name (i := 2) sc__by_twos.nd rfl (Or.inl rfl)) (fun _ _ _ _ _ => pts_nil) (fun _ _ _ _ _ => (pe_op op_and1 (pe_op op_shrP (pv 0) (pv 2)) pe_int))))), ?_⟩
    refine evo_lcV (K := K) (m := k) (fun n => .int (x / 2 ^ (k - 1 - n) % 2)) (ev_var rfl) (by omega) (fun n H1 D R hn s1 hacc s2 kk => ?_) H _ (Same.refl _) fun p vs H1 np s1 e1 d1 => ?_
    · exact (ev_and1 (ev_shr (ev_var rfl) (ev_var rfl)) ev_c) H1 R (Same.refl _) fun H2 s3 => kk _ H2 s3 (.int _)
    · have ev : vs = (bitsOf k x).map V.int := dpa_ints_eq (by rw [bitsOf_map, List.map_map]; exact d1)
      rw [ev] at e1
      exact q p H1 np s1 e1
theorem ev_fewest {te : TE} {σ : L2.St} {H : Hp} {s : S3} {u : TS} {D : Ends} {i : Nat} (h : EvD K te σ H s.d) (gd : s.Good) (k : ∀ n H1, WideK s n → Same H H1 → u D (σ.set i (some (.int (n : Int)))) H1) : tSeq (tAsg (tCall (sp_fewest K) [] E0 (tCons te tNil)) (gName i)) u D σ H :=
  h H _ (Same.refl H) fun v H1 s1 d1 => ⟨v, s, rfl, d1, gd, fun n H2 hn s2 => k n H2 hn (s1.trans s2)⟩
theorem ev_first {ta tb : TE} {σ : L2.St} {H : Hp} {s : S3} {n k : Nat} (h : EvD K ta σ H s.d) (hk : EvV tb σ H (.int (k : Int))) (ok : s.Ok n) (h0 : 0 < n) (hn : n ≤ 9000) (hl : k ≤ 9000) : EvV (tCall (sp_first K) [] E0 (tCons ta (tCons tb tNil))) σ H (.int (firstK s k)) :=
  evv_call (eds_cons h (eds_cons hk.int eds_nil)) fun vs H1 Q s1 d1 q => by
    obtain ⟨v, u, rfl, a1, a2⟩ := dpaN2 d1
    cases dp_int a2
    exact ⟨_, s, n, k, rfl, a1, ok, h0, hn, hl, q⟩
theorem evo_by_twos {ta tb : TE} {σ : L2.St} {H : Hp} {x : Int} {k : Nat} (h : EvV ta σ H (.int x)) (hk : EvV tb σ H (.int (k : Int))) (hl : k ≤ 9000) : EvO K (tCall (sp_by_twos K) [] E0 (tCons ta (tCons tb tNil))) σ H ((bitsOf k x).map PyData.int) :=
  evo_call (eds_cons h.int (eds_cons hk.int eds_nil)) fun vs H1 Q s1 d1 q => by
    obtain ⟨v, u, rfl, a1, a2⟩ := dpaN2 d1
    cases dp_int a1
    cases dp_int a2
    exact ⟨x, k, rfl, hl, fun p H2 np s2 e2 => q p _ H2 np s2 e2 (dpa_ints _)⟩
abbrev s_figures_in : Stmt := topS 33
theorem sc_figures_in : FnScope ["stretch", "many", "number"] ["stretch"] (defScope s_figures_in) := ⟨rfl, rfl, rfl, by decide +kernel, rfl, by decide +kernel, by decide +kernel⟩

def sp_figures_in (K : PySem.W.Frag) : Sp := fun vs H Q _ => ∃ (v : V) (s : S3) (n : Nat), vs = [v] ∧ Dp K H v s.d ∧ s.Ok n ∧ 0 < n ∧ n ≤ 5000 ∧ ∀ p H', H p = none → Same H H' → H' p = some (.lst ((figsIn s).map V.int)) → Q (.ref p) H'
theorem ok_figures_in (F : FnP K "figures_in" s_figures_in f fd) (c__fewest : Cal P w K mg base CX0 1 "_fewest" ["stretch"] (sp_fewest K)) (c__first_number : Cal P w K mg base CX0 1 "_first_number" ["stretch", "many"] (sp_first K)) (c__by_twos : Cal P w K mg base CX0 1 "_by_twos" ["number", "many"] (sp_by_twos K))
    (c_within : Cal P w K mg base CX0 1 "within" ["one", "other"] (sp_within K)) : FnOk P w K mg base CX0 2 f fd ["stretch"] (sp_figures_in K) := by
  refine F.ok sc_figures_in (fun vs H Q E h => ?_) (fun cdv A outer s H vs Q E hr h => ?_)
  · obtain ⟨_, _, _, rfl, _⟩ := h
    rfl
  · obtain ⟨v, s, n, rfl, hv, ok, h0, hn, q⟩ := h
    refine ⟨_, PSs.nox (pss_hold (ps_set (i := 1) sc_figures_in.nd rfl (Or.inl rfl) (pe_f c__fewest (hr.mono (by decide)) (pa_cons (pv 0) pa_nil)))
      (pss_hold (ps_set (i := 2) sc_figures_in.nd rfl (Or.inl rfl) (pe_f c__first_number (hr.mono (by decide)) (pa_cons (pv 0) (pa_cons (pv 1) pa_nil))))
      (Evl.pss_cut (ps_if (pt_not (pt_val (pe_f c_within (hr.mono (by decide)) (pa_cons (pe_tup (pa_cons (pv 2) (pa_cons pe_int (pa_cons (pe_op op_shlP pe_int (pv 1)) pa_nil)))) (pa_cons (pv 0) pa_nil))))) (pss_hold (ps_aug (i := 1) sc_figures_in.nd rfl (Or.inl rfl) pe_int ip_add)
      (pss_one (ps_set (i := 2) sc_figures_in.nd rfl (Or.inl rfl) (pe_f c__first_number (hr.mono (by decide)) (pa_cons (pv 0) (pa_cons (pv 1) pa_nil)))))) pss_nil)
      (pss_one (ps_ret (pe_f c__by_twos (hr.mono (by decide)) (pa_cons (pv 2) (pa_cons (pv 1) pa_nil)))))))), ?_⟩
    have gd := ok.good
    refine ev_fewest (evd_var rfl hv) gd fun k H1 hk s1 => ?_
    have kn := wideK_le ok hk
    have d1 := dp_same s1 _ _ hv
    refine hold (asgV (ev_first (evd_var rfl d1) (ev_var rfl) ok h0 (by omega) (by omega)) fun H2 s2 => ?_)
    have d2 := dp_same s2 _ _ d1
    have few := wideK_few gd hk
    have rm := wideK_room gd hk.1
    refine hold (cut_if (b := !fitsK s k) (fun σ' H' => σ' = [some v, some (.int (fewK s : Int)), some (.int (firstK s (fewK s)))] ∧ Same H2 H') ?_ (fun e H3 s3 => ?_) (fun e H3 s3 => ⟨?_, s3⟩) ?_)
    · refine evb_not (evb_b (EvV.is (ev_within (s := ⟨firstK s k, 1, 2 ^ k⟩) (t := s) (evd_tup (eds_cons (evd_var rfl (.int _)) (eds_cons evd_int (eds_cons (EvV.int (EvV.is (ev_shl ev_c (ev_var rfl) (shl_ok (n := 1) (by decide) (by omega))) (by rw [Int.one_mul]))) eds_nil))) (by show 3 ≤ 100000; omega)) (evd_var rfl d2) (one_piece (firstK_pos gd k) rm) ok (by omega)) (by rw [fits_iff gd])))
    · have ef : fitsK s k = false := by
        cases z : fitsK s k with
        | false => rfl
        | true => rw [z] at e; cases e
      rw [ef, if_neg Bool.false_ne_true] at few
      refine ⟨_, rfl, _, _, rfl, rfl, ?_⟩
      refine hold (asgLast (ev_first (k := k + 1) (evd_var rfl (dp_same s3 _ _ d2)) (EvV.is (ev_var rfl) rfl) ok h0 (by omega) (by omega)) fun H4 s4 => ⟨?_, s3.trans s4⟩)
      rw [few]
      rfl
    · have ef : fitsK s k = true := by
        cases z : fitsK s k with
        | true => rfl
        | false => rw [z] at e; cases e
      rw [ef, if_pos rfl] at few
      rw [few]
      rfl
    · rintro σ' H3 ⟨rfl, s3⟩
      have fl : fewK s ≤ 9000 := by have := fewK_le ok; omega
      exact hold (retO (evo_by_twos (ev_var rfl) (ev_var rfl) fl) fun p vs H4 np s4 e4 d4 => q p H4 (((s1.trans s2).trans s3).free np) (((s1.trans s2).trans s3).trans s4) (by rw [dpa_ints_eq d4] at e4; exact e4))
theorem evo_figures_in {te : TE} {σ : L2.St} {H : Hp} {s : S3} {n : Nat} (h : EvD K te σ H s.d) (ok : s.Ok n) (h0 : 0 < n) (hn : n ≤ 5000) : EvO K (tCall (sp_figures_in K) [] E0 (tCons te tNil)) σ H ((figsIn s).map PyData.int) :=
  evo_call (eds_cons h eds_nil) fun vs H1 Q s1 d1 q => by
    obtain ⟨v, rfl, a1⟩ := dpaN1 d1
    exact ⟨_, s, n, rfl, a1, ok, h0, hn, fun p H2 np s2 e2 => q p _ H2 np s2 e2 (dpa_ints _)⟩
abbrev s_pressed : Stmt := topS 35
theorem sc_pressed : FnScope ["plan", "signs"] ["plan", "signs"] (defScope s_pressed) := ⟨rfl, rfl, rfl, by decide +kernel, rfl, by decide +kernel, by decide +kernel⟩

def pressedF : List PyData → Except Err (List Int)
  | [d, x] => if isPlan d then (if isWholeList x 60 0 (((countsOf d).length : Int) - 1) then .ok (figsIn (textS (countsOf d) (gainOf d) (itemsOf x))) else .error .sign) else .error .plan
  | _ => .ok []
abbrev sp_pressed (K : PySem.W.Frag) : Sp := PSpXO K 2 pressedF
theorem pressed_noplan {d x : PyData} (h : isPlan d = false) : pressedF [d, x] = .error .plan := if_neg (by rw [h]; exact Bool.false_ne_true)
theorem pressed_no {cs : List Int} {g : Int} {x : PyData} (p : Plan cs g) (h : isWholeList x 60 0 ((cs.length : Int) - 1) = false) : pressedF [planD cs g, x] = .error .sign := by
  show (if isPlan (planD cs g) = true then _ else _) = _
  rw [if_pos (isPlan_of p), counts_planD, if_neg (by rw [h]; exact Bool.false_ne_true)]
theorem pressed_yes {cs : List Int} {g : Int} {ss : List Int} (p : Plan cs g) (h : Text cs.length ss) : pressedF [planD cs g, .list (ss.map PyData.int)] = .ok (figsIn (textS cs g ss)) := by
  show (if isPlan (planD cs g) = true then _ else _) = _
  rw [if_pos (isPlan_of p), counts_planD, if_pos (isText_of h), gain_planD]
  show Except.ok (figsIn (textS cs g ((ss.map PyData.int).map toI))) = _
  rw [toI_map]
theorem stretch_ok {d x r : PyData} (h : stretchF [d, x] = .ok r) : ∃ cs g ss, d = planD cs g ∧ Plan cs g ∧ x = .list (ss.map PyData.int) ∧ Text cs.length ss ∧ r = (textS cs g ss).d := by
  cases hp : isPlan d with
  | false =>
    rw [stretch_noplan hp] at h
    cases h
  | true =>
    obtain ⟨cs, g, rfl, pl⟩ := isPlan_ok hp
    cases hx : isWholeList x 60 0 ((cs.length : Int) - 1) with
    | false =>
      rw [stretch_no pl hx] at h
      cases h
    | true =>
      obtain ⟨ss, rfl, tx⟩ := isText_ok hx
      rw [stretch_yes pl tx] at h
      exact ⟨cs, g, ss, rfl, pl, rfl, tx, (Except.ok.inj h).symm⟩
theorem stretch_err {d x : PyData} {e : Err} (h : stretchF [d, x] = .error e) : pressedF [d, x] = .error e := by
  cases hp : isPlan d with
  | false =>
    rw [stretch_noplan hp] at h
    rw [pressed_noplan hp]
    cases h
    rfl
  | true =>
    obtain ⟨cs, g, rfl, pl⟩ := isPlan_ok hp
    cases hx : isWholeList x 60 0 ((cs.length : Int) - 1) with
    | false =>
      rw [stretch_no pl hx] at h
      rw [pressed_no pl hx]
      cases h
      rfl
    | true =>
      obtain ⟨ss, rfl, tx⟩ := isText_ok hx
      rw [stretch_yes pl tx] at h
      cases h
theorem ok_pressed (F : FnP K "pressed" s_pressed f fd) (c_stretch_of : Cal P w K mg base (L2N.CX P w) 7 "stretch_of" ["plan", "signs"] (sp_stretch_of K)) (c_figures_in : Cal P w K mg base CX0 2 "figures_in" ["stretch"] (sp_figures_in K)) :
    FnOk P w K mg base (L2N.CX P w) 8 f fd ["plan", "signs"] (sp_pressed K) := by
  refine F.ok sc_pressed (fun vs H Q E h => len1O h) (fun cdv A outer s H vs Q E hr h => ?_)
  obtain ⟨ds, hds, hl, kQ, kE⟩ := h
  obtain ⟨d, x, rfl⟩ : ∃ d x, ds = [d, x] := match ds, hl with | [d, x], _ => ⟨d, x, rfl⟩
  obtain ⟨v, u, rfl, hd, hx⟩ := dpaN2 hds
  refine ⟨_, (pss_one (ps_ret (pe_f c_figures_in (hr.mono (by decide)) (pa_cons (pe_fX c_stretch_of (hr.mono (by decide)) (L2N.takes_of rfl rfl rfl rfl) (pa_cons (pv 0) (pa_cons (pv 1) pa_nil))) pa_nil)))), ?_⟩
  refine ⟨_, rfl, _, rfl, [d, x], .cons hd (.cons hx .nil), rfl, fun r hr v1 H1 s1 d1 => ?_, fun e he H1 s1 => kE e (stretch_err he) H1 s1⟩
  obtain ⟨cs, g, ss, rfl, pl, rfl, tx, rfl⟩ := stretch_ok hr
  refine ⟨v1, _, 1400, rfl, d1, textS_ok pl tx, by omega, by omega, fun p H2 np s2 e2 => ?_⟩
  exact kQ _ (pressed_yes pl tx) p H2 (s1.free np) (s1.trans s2) e2
end

section
variable {P : Program} {w : World} {K : PySem.W.Frag} {mg : Str → Option Value} {base : Heap} {f : Addr} {fd : FuncData}
abbrev rdC (K : PySem.W.Frag) : Addr := He.ga K "Reader"
abbrev s__sign_around : Stmt := topS 43
theorem sc__sign_around : FnScope ["inner", "stretch", "plan", "sign"] ["inner", "stretch", "plan"] (defScope s__sign_around) := ⟨rfl, rfl, rfl, by decide +kernel, rfl, by decide +kernel, by decide +kernel⟩

def noneOr : Option Nat → V
  | none => .non
  | some x => .int (x : Int)
def sp_sign_around (K : PySem.W.Frag) : Sp := fun vs H Q _ => ∃ (vI vS vP : V) (goal now : S3) (cs : List Int) (g : Int), vs = [vI, vS, vP] ∧ Dp K H vI goal.d ∧ goal.Ok 5000 ∧ Dp K H vS now.d ∧ now.Ok 1400 ∧ Dp K H vP (planD cs g) ∧ Plan cs g ∧ ∀ H', Same H H' → Q (noneOr (signIn goal now cs)) H'
theorem ok_sign_around (F : FnP K "_sign_around" s__sign_around f fd) (c_within : Cal P w K mg base CX0 1 "within" ["one", "other"] (sp_within K)) (c_parted : Cal P w K mg base CX0 1 "parted" ["stretch", "one"] (sp_parted K))
    (c_share : Cal P w K mg base (L2N.CX P w) 5 "share" ["plan", "sign"] (sp_share K)) (z_len : mg "len" = none) (z_range : mg "range" = none) : FnOk P w K mg base CX0 6 f fd ["inner", "stretch", "plan"] (sp_sign_around K) := by
  refine F.ok sc__sign_around (fun vs H Q E h => ?_) (fun cdv A outer s H vs Q E hr h => ?_)
  · obtain ⟨_, _, _, _, _, _, _, rfl, _⟩ := h
    rfl
  · obtain ⟨vI, vS, vP, goal, now, cs, g, rfl, hI, okI, hS, okS, hP, pl, q⟩ := h
    refine ⟨_, PSs.nox (pss_hold (ps_for PassesOwn.never rfl (pi_range1 rfl z_range (pa_cons (pe_callB (lenK (K := K) rfl) (by rfl) z_len (by decide +kernel) (pa_cons (pe_ix (ix_tupK (K := K) rfl) (pv 2) pe_int (fun _ _ => rfl)) pa_nil)) pa_nil)) (pg_name (i := 3) sc__sign_around.nd rfl (.inl rfl)) (pss_one (ps_if (pt_val (pe_f c_within (hr.mono (by decide)) (pa_cons (pv 0) (pa_cons (pe_f c_parted (hr.mono (by decide)) (pa_cons (pv 1) (pa_cons (pe_fN c_share (hr.mono (by decide)) (pa_cons (pv 2) (pa_cons (pv 3) pa_nil))) pa_nil))) pa_nil)))) (pss_one (ps_ret (pv 3))) pss_nil)))
      (pss_one (ps_ret pe_non))), ?_⟩
    have hlc : (cs.map PyData.int).length = cs.length := List.length_map ..
    have l8 := pl.eight
    refine forR (m := cs.length) (EvV.is (ev_lenT (evd_ixT (ds := [.tuple (cs.map PyData.int), .int g]) (n := 0) (evd_var rfl hP) ev_c (by decide) rfl)) (by rw [hlc])) (by omega) (fun i σ' H' => ∃ y, σ' = [some vI, some vS, some vP, y] ∧ Same H H' ∧ ∀ j, j < i → withinB goal (partAt now cs (j : Int)) = false) (fun H1 s1 => ⟨_, rfl, s1, fun j hj => absurd hj (Nat.not_lt_zero j)⟩) ?_ ?_
    · rintro i σ' H' hi ⟨y, rfl, sm, no⟩
      have h0 : (0 : Int) ≤ (i : Int) := by omega
      have h1 : (i : Int) < cs.length := by omega
      have hok : isWhole (.int (i : Int)) 0 ((cs.length : Int) - 1) = true := by
        rw [isWhole_int, decide_eq_true h0, decide_eq_true (by omega)]
        rfl
      have sh := plan_share pl h0 h1
      refine ifL (b := withinB goal (partAt now cs (i : Int))) (evb_b (ev_within (s := goal) (t := partAt now cs (i : Int)) (evd_var rfl (dp_same sm _ _ hI)) (evd_parted (evd_var rfl (dp_same sm _ _ hS)) (evd_X (d := shareD cs g (i : Int)) (eds_cons (evd_var rfl (dp_same sm _ _ hP)) (eds_cons (evd_var rfl (.int _)) eds_nil)) rfl (sign_yes pl hok)) okS (by omega) sh) okI (okS.by_ok sh) (by omega))) (fun c H1 s1 => ?_) (fun c H1 s1 => ?_)
      · refine retV (v := noneOr (signIn goal now cs)) (EvV.is (ev_var rfl) ?_) fun H2 s2 => q H2 ((sm.trans s1).trans s2)
        rw [signIn_is okI.good okS.good pl hi c]
        rfl
      · refine ⟨_, rfl, sm.trans s1, fun j hj => ?_⟩
        rcases Nat.lt_or_ge j i with z | z
        · exact no j z
        · have e : j = i := by omega
          rw [e]
          exact c
    · rintro σ' H' ⟨y, rfl, sm, no⟩
      refine hold (retV (v := noneOr (signIn goal now cs)) (EvV.is ev_c ?_) fun H2 s2 => q H2 (sm.trans s2))
      have e : signIn goal now cs = none := List.find?_eq_none.mpr fun x hx => by
        rw [no x (List.mem_range.mp hx)]
        exact Bool.false_ne_true
      rw [e]
      rfl
theorem ev_sign_around {ta tb tc : TE} {σ : L2.St} {H : Hp} {goal now : S3} {cs : List Int} {g : Int} (h : EvD K ta σ H goal.d) (h2 : EvD K tb σ H now.d) (h3 : EvD K tc σ H (planD cs g)) (ok : goal.Ok 5000) (ok2 : now.Ok 1400) (pl : Plan cs g) : EvV (tCall (sp_sign_around K) [] E0 (tCons ta (tCons tb (tCons tc tNil)))) σ H (noneOr (signIn goal now cs)) :=
  evv_call (eds_cons h (eds_cons h2 (eds_cons h3 eds_nil))) fun vs H1 Q s1 d1 k => by
    obtain ⟨v, u, x, rfl, a1, a2, a3⟩ := dpaN3 d1
    exact ⟨_, _, _, goal, now, cs, g, rfl, a1, ok, a2, ok2, a3, pl, k⟩
abbrev s_Reader_lacking : Stmt := inClass (topS 42) 3
theorem sc_Reader_lacking : FnScope ["self"] ["self"] (defScope s_Reader_lacking) := ⟨rfl, rfl, rfl, by decide +kernel, rfl, by decide +kernel, by decide +kernel⟩

def sp_lacking (K : PySem.W.Frag) : Sp := fun vs H Q _ => ∃ (p l : Addr) (cs as ss : List Int) (g : Int) (m : Nat), vs = [.ref p] ∧ RdG K (rdC K) H p l cs g m as ss ∧ ∀ H', Same H H' → Q (.int ((m : Int) - (ss.length : Int))) H'
theorem ok_lacking (F : FnM K "lacking" "Reader.lacking" s_Reader_lacking f fd) (T_Reader : ClsT K (rdC K) rdN) (z_len : mg "len" = none) : FnOk P w K mg base CX0 1 f fd ["self"] (sp_lacking K) := by
  refine F.ok sc_Reader_lacking (fun vs H Q E h => ?_) (fun cdv A outer s H vs Q E hr h => ?_)
  · obtain ⟨_, _, _, _, _, _, _, rfl, _⟩ := h
    rfl
  · obtain ⟨p, l, cs, as, ss, g, m, rfl, R, q⟩ := h
    refine ⟨_, PSs.nox (pss_one (ps_ret (pe_op op_sub (pe_fld (pv 0) rfl) (pe_callB (lenK (K := K) rfl) (by rfl) z_len (by decide +kernel) (pa_cons (pe_fld (pv 0) rfl) pa_nil))))), ?_⟩
    obtain ⟨dx, S, PL, I, e, d1, d2, d3⟩ := R.at_
    exact retV (ev_op0 (g := fun i j => V.int (i - j)) (ev_fld T_Reader (by simp) rfl e rd_many) (EvV.is (ev_lenL (ds := ss.map PyData.int) ((ev_fld T_Reader (by simp) rfl e rd_signs).dat fun H2 s2 => dp_list (s2 _ _ R.sg))) (by rw [List.length_map]))) fun H1 s1 => q H1 s1
theorem ev_lacking {te : TE} {σ : L2.St} {H : Hp} {p l : Addr} {cs as ss : List Int} {g : Int} {m : Nat} (h : EvV te σ H (.ref p)) (R : RdG K (rdC K) H p l cs g m as ss) : EvV (tMX (rdC K) "lacking" (sp_lacking K) (fun _ => E0) te tNil) σ H (.int ((m : Int) - (ss.length : Int))) := fun H1 Q s1 k =>
  h H1 _ s1 fun H2 s2 => by
    have R2 := R.same (s1.trans s2)
    obtain ⟨dx, S, PL, I, e, _⟩ := R2.at_
    exact ⟨p, dx, _, rfl, e, rd_no (by decide +kernel), p, l, cs, as, ss, g, m, rfl, R2, fun H3 s3 => k H3 (s2.trans s3)⟩
abbrev s_Reader_told : Stmt := inClass (topS 42) 2
theorem sc_Reader_told : FnScope ["self"] ["self"] (defScope s_Reader_told) := ⟨rfl, rfl, rfl, by decide +kernel, rfl, by decide +kernel, by decide +kernel⟩

def sp_rtold (K : PySem.W.Frag) : Sp := fun vs H Q _ => ∃ (p l : Addr) (cs as ss : List Int) (g : Int) (m : Nat), vs = [.ref p] ∧ RdG K (rdC K) H p l cs g m as ss ∧ ∀ r H', H r = none → Same H H' → H' r = some (.lst (ss.map V.int)) → Q (.ref r) H'
theorem ok_rtold (F : FnM K "told" "Reader.told" s_Reader_told f fd) (T_Reader : ClsT K (rdC K) rdN) (z_list : mg "list" = none) : FnOk P w K mg base CX0 1 f fd ["self"] (sp_rtold K) := by
  refine F.ok sc_Reader_told (fun vs H Q E h => ?_) (fun cdv A outer s H vs Q E hr h => ?_)
  · obtain ⟨_, _, _, _, _, _, _, rfl, _⟩ := h
    rfl
  · obtain ⟨p, l, cs, as, ss, g, m, rfl, R, q⟩ := h
    refine ⟨_, PSs.nox (pss_one (ps_ret (pe_callTy (listK (K := K) rfl) (by rfl) z_list (by decide +kernel) (pa_cons (pe_fld (pv 0) rfl) pa_nil)))), ?_⟩
    obtain ⟨dx, S, PL, I, e, d1, d2, d3⟩ := R.at_
    exact retO (evd_listOfL (ds := ss.map PyData.int) ((ev_fld T_Reader (by simp) rfl e rd_signs).dat fun H2 s2 => dp_list (s2 _ _ R.sg))) fun r vs H1 nr s1 e1 d4 => q r H1 nr s1 (by rw [dpa_ints_eq d4] at e1; exact e1)
theorem evo_rtold {te : TE} {σ : L2.St} {H : Hp} {p l : Addr} {cs as ss : List Int} {g : Int} {m : Nat} (h : EvV te σ H (.ref p)) (R : RdG K (rdC K) H p l cs g m as ss) : EvO K (tMX (rdC K) "told" (sp_rtold K) (fun _ => E0) te tNil) σ H (ss.map PyData.int) := fun H1 Q s1 k =>
  h H1 _ s1 fun H2 s2 => by
    have R2 := R.same (s1.trans s2)
    obtain ⟨dx, S, PL, I, e, _⟩ := R2.at_
    exact ⟨p, dx, _, rfl, e, rd_no (by decide +kernel), p, l, cs, as, ss, g, m, rfl, R2, fun r H3 nr s3 e3 => k r _ H3 (s2.free nr) (s2.trans s3) e3 (dpa_ints _)⟩
abbrev s_Reader__further : Stmt := inClass (topS 42) 4
theorem sc_Reader__further : FnScope ["self", "fresh", "sign"] ["self"] (defScope s_Reader__further) := ⟨rfl, rfl, rfl, by decide +kernel, rfl, by decide +kernel, by decide +kernel⟩

def sp_further (K : PySem.W.Frag) : Sp := fun vs H Q _ => ∃ (p l : Addr) (cs as ss : List Int) (g : Int) (m : Nat), vs = [.ref p] ∧ RdG K (rdC K) H p l cs g m as ss ∧ RdO cs g m as ∧ Signs cs.length ss ∧ ss.length ≤ m ∧ withinB (figS as) (textS cs g ss) = true ∧
  ∀ r H', H r = none → Keep [p, l] H H' → H' r = some (.lst (((sgn cs g m as).drop ss.length).map V.int)) → RdAt K (rdC K) H' p l cs g m as → Q (.ref r) H'
theorem ok_further (F : FnM K "_further" "Reader._further" s_Reader__further f fd) (T_Reader : ClsT K (rdC K) rdN) (c_Reader_lacking : MCal P w K mg base CX0 (rdC K) 1 "lacking" ["self"] (sp_lacking K)) (c__sign_around : Cal P w K mg base CX0 6 "_sign_around" ["inner", "stretch", "plan"] (sp_sign_around K))
    (c_stepped : Cal P w K mg base CX0 6 "stepped" ["stretch", "plan", "sign"] (sp_stepped K)) : FnOk P w K mg base CX0 7 f fd ["self"] (sp_further K) := by
  refine F.ok sc_Reader__further (fun vs H Q E h => ?_) (fun cdv A outer s H vs Q E hr h => ?_)
  · obtain ⟨_, _, _, _, _, _, _, rfl, _⟩ := h
    rfl
  · obtain ⟨p, l, cs, as, s0, g, m, rfl, R, O, sg0, l0, w0, q⟩ := h
    refine ⟨_, PSs.nox (pss_hold (ps_set (i := 1) sc_Reader__further.nd rfl (Or.inl rfl) (pe_lst pa_nil))
      (pss_hold (ps_while PassesOwn.never (pt_cmpR op_gt (pe_mX0 T_Reader.cl c_Reader_lacking (hr.mono (by decide)) (fun σ => pass0At σ) (pv 0)) pe_int (nomark _)) (pss_hold (ps_set (i := 2) sc_Reader__further.nd rfl (Or.inl rfl) (pe_f c__sign_around (hr.mono (by decide)) (pa_cons (pe_fld (pv 0) rfl) (pa_cons (pe_fld (pv 0) rfl) (pa_cons (pe_fld (pv 0) rfl) pa_nil)))))
      (pss_hold (ps_if (pt_cmpR op_isN (pv 2) pe_non (nomark _)) (pss_one ps_break) pss_nil)
      (pss_hold (ps_asg (pe_f c_stepped (hr.mono (by decide)) (pa_cons (pe_fld (pv 0) rfl) (pa_cons (pe_fld (pv 0) rfl) (pa_cons (pv 2) pa_nil)))) (pg_tupK (K := K) (n := 2) rfl rfl (pgs_cons (pg_fld (K := K) rfl (pv 0)) (pgs_cons (pg_fld (K := K) rfl (pv 0)) pgs_nil))))
      (pss_hold (ps_expr (pe_bm PySem.F.plainAttrs_list PySem.F.slot_list_append PySem.F.type_list_append mt_append (pe_fld (pv 0) rfl) (pa_cons (pv 2) pa_nil)))
      (pss_one (ps_expr (pe_bm PySem.F.plainAttrs_list PySem.F.slot_list_append PySem.F.type_list_append mt_append (pv 1) (pa_cons (pv 2) pa_nil)))))))))
      (pss_one (ps_ret (pv 1))))), ?_⟩
    have pl := O.pl
    have okI : (figS as).Ok 5000 := (figS_ok O.bits).mono (by have := O.few; omega)
    refine asgO (K := K) (ds := []) (evo_lst eds_nil (by show 0 ≤ 100000; omega)) fun r vs1 H1 nr s1 e1 d1 => ?_
    cases d1
    have R1 := R.same s1
    have nrp : r ≠ p := fun z => by
      obtain ⟨dx, S, PL, I, e, _⟩ := R.at_
      rw [z, e] at nr
      cases nr
    have nrl : r ≠ l := fun z => by
      rw [z, R.sg] at nr
      cases nr
    refine hold ?_
    refine whileI (fun n σ' H' => ∃ ss y, σ' = [some (.ref p), some (.ref r), y] ∧ Keep [p, l] H H' ∧ RdG K (rdC K) H' p l cs g m as (s0 ++ ss) ∧ H' r = some (.lst (ss.map V.int)) ∧ Signs cs.length (s0 ++ ss) ∧ (s0 ++ ss).length ≤ m ∧ withinB (figS as) (textS cs g (s0 ++ ss)) = true ∧ n = m - (s0 ++ ss).length) _ ⟨[], _, rfl, Same.keep s1, by rw [List.append_nil]; exact R1, e1, by rw [List.append_nil]; exact sg0, by rw [List.append_nil]; exact l0, by rw [List.append_nil]; exact w0, rfl⟩ ?_
    rintro n σ' H' ⟨ss, y, rfl, kp, R', er, sg, ln, wn, rfl⟩
    have split := certain_split (figS_good O.bits) whole_good pl sg wn ln
    change sgn cs g m as = (s0 ++ ss) ++ certainOf (figS as) g (m - (s0 ++ ss).length) (textS cs g (s0 ++ ss)) (after cs g (s0 ++ ss)) at split
    have tx : Text cs.length (s0 ++ ss) := ⟨by have := O.m60; omega, fun x hx => by have := sg x hx; omega⟩
    obtain ⟨pa, la⟩ := after_ok pl sg
    have okS := textS_ok pl tx
    -- when it stops
    have fin : ∀ (H2 : Hp) (y : Option V), Same H' H2 → certainOf (figS as) g (m - (s0 ++ ss).length) (textS cs g (s0 ++ ss)) (after cs g (s0 ++ ss)) = [] → Hold (tRet (tVar 1)) { nx := fun _ H' => Q V.non H', rt := Q } [some (.ref p), some (.ref r), y] H2 := by
      intro H2 y s2 e
      rw [e, List.append_nil] at split
      refine hold (retV (ev_var rfl) fun H3 s3 => q r H3 nr (kp.trans (Same.keep (s2.trans s3))) ?_ ?_)
      · rw [split, List.drop_left']
        · exact (s2.trans s3) _ _ er
        · rfl
      · show RdG K (rdC K) H3 p l cs g m as (sgn cs g m as)
        rw [split]
        exact R'.same (s2.trans s3)
    refine ⟨decide ((m : Int) - ((s0 ++ ss).length : Int) > 0), evb_test (ev_op0 (g := fun i j => V.bl (decide (i > j))) (ev_lacking (ev_var rfl) R') ev_c), fun c H2 s2 => ?_, fun c H2 s2 => fin H2 y s2 ?_⟩
    · have hlt := of_decide_eq_true c
      have R2 := R'.same s2
      obtain ⟨dx, S, PL, I, eP, dS, dP, dI⟩ := R2.at_
      refine asgV (ev_sign_around ((ev_fld T_Reader (by simp) rfl eP rd_inner).dat fun J sJ => dp_same sJ _ _ dI) ((ev_fld T_Reader (by simp) rfl eP rd_stretch).dat fun J sJ => dp_same sJ _ _ dS) ((ev_fld T_Reader (by simp) rfl eP rd_plan).dat fun J sJ => dp_same sJ _ _ dP) okI okS pa) fun H3 s3 => ?_
      cases e : signIn (figS as) (textS cs g (s0 ++ ss)) (after cs g (s0 ++ ss)) with
      | none =>
        refine hold (ifYes (EvB.is (evb_test (ev_isN (K := K) (d := .none) ((ev_var rfl).dat fun _ _ => .non))) rfl) fun H4 s4 => ?_)
        exact fin H4 _ ((s2.trans s3).trans s4) (certain_stop e _)
      | some x =>
        obtain ⟨hx, wx⟩ := signIn_some e
        refine hold (ifNo (EvB.is (evb_test (ev_isN (K := K) (d := .int (x : Int)) ((ev_var rfl).dat fun _ _ => .int _))) rfl) fun H4 s4 => ?_)
        have R4 := R2.same (s3.trans s4)
        have er4 := (s2.trans (s3.trans s4)) _ _ er
        have kp4 := kp.trans (Same.keep ((s2.trans s3).trans s4))
        obtain ⟨dx, S, PL, I, eP, dS, dP, dI⟩ := R4.at_
        have hx0 : (0 : Int) ≤ (x : Int) := by omega
        have hx1 : (x : Int) < (after cs g (s0 ++ ss)).length := by omega
        refine hold (unp2F T_Reader (by simp) (by simp) rfl eP (fun v => ⟨rd_len, by rw [rd_pstretch]; exact rd_len⟩) (evd_stepped ((ev_fld T_Reader (by simp) rfl eP rd_stretch).dat fun J sJ => dp_same sJ _ _ dS) ((ev_fld T_Reader (by simp) rfl eP rd_plan).dat fun J sJ => dp_same sJ _ _ dP) (ev_var rfl) okS (by omega) pa hx0 hx1) fun v1 v2 H5 s5 b1 b2 => ?_)
        rw [upd_upd, rd_pstretch, rd_pplan]
        have eA := after_snoc cs g (s0 ++ ss) (x : Int)
        have eT := strOf_snoc g (x : Int) (s0 ++ ss) whole3 cs
        change textS cs g (s0 ++ ss ++ [(x : Int)]) = (textS cs g (s0 ++ ss)).by _ _ _ at eT
        have R5 := R4.same s5
        have nt5 : NoTup [p, l] H5 := R5.nt
        have k5 : Keep [p, l] H5 (upd H5 p (.ins (rdC K) dx (rdF m as.length l v1 v2 I))) := keep_upd (by simp)
        have c1 := dp_keep k5 nt5 (tupO_s3 _) b1
        have c2 := dp_keep k5 nt5 (tupO_plan _ _) b2
        have c3 := dp_keep k5 nt5 (tupO_s3 _) (dp_same s5 _ _ dI)
        have lp := R4.ne
        have el6 : upd H5 p (.ins (rdC K) dx (rdF m as.length l v1 v2 I)) l = some (.lst ((s0 ++ ss).map V.int)) := by
          rw [upd_ne lp]
          exact R5.sg
        have er6 : upd H5 p (.ins (rdC K) dx (rdF m as.length l v1 v2 I)) r = some (.lst (ss.map V.int)) := by
          rw [upd_ne nrp]
          exact s5 _ _ er4
        have ep6 : upd H5 p (.ins (rdC K) dx (rdF m as.length l v1 v2 I)) p = some (.ins (rdC K) dx (rdF m as.length l v1 v2 I)) := upd_same
        have kp6 := (kp4.trans (Same.keep s5)).trans k5
        generalize upd H5 p (.ins (rdC K) dx (rdF m as.length l v1 v2 I)) = H6 at c1 c2 c3 el6 er6 ep6 kp6
        have hl6 : ((s0 ++ ss).map V.int).length ≤ 100000 := by rw [List.length_map]; have := tx.1; omega
        -- self._signs.append(sign)
        refine hold (appF T_Reader (by simp) rfl ep6 rd_signs el6 hl6 (ev_var (v := .int (x : Int)) rfl) fun H7 s7 => ?_)
        have nt7 : NoTup [l] H7 := notup_of fun a ha => by
          rw [List.mem_singleton.mp ha]
          exact ⟨_, s7 _ _ el6, nt_lst _⟩
        have k7 : Keep [l] H7 (upd H7 l (.lst ((s0 ++ ss).map V.int ++ [.int (x : Int)]))) := keep_upd (by simp)
        have c1' := dp_keep k7 nt7 (tupO_s3 _) (dp_same s7 _ _ c1)
        have c2' := dp_keep k7 nt7 (tupO_plan _ _) (dp_same s7 _ _ c2)
        have c3' := dp_keep k7 nt7 (tupO_s3 _) (dp_same s7 _ _ c3)
        have el8 : upd H7 l (.lst ((s0 ++ ss).map V.int ++ [.int (x : Int)])) l = some (.lst ((s0 ++ ss ++ [(x : Int)]).map V.int)) := by
          rw [upd_same, List.map_append (l₁ := s0 ++ ss)]
          rfl
        have ep8 := k7 _ _ (by simp [lp.symm]) (s7 _ _ ep6)
        have er8 := k7 _ _ (by simp [nrl]) (s7 _ _ er6)
        have kp8 := (kp6.trans (Same.keep s7)).trans (k7.mono (by simp))
        generalize upd H7 l (.lst ((s0 ++ ss).map V.int ++ [.int (x : Int)])) = H8 at c1' c2' c3' el8 ep8 er8 kp8
        -- fresh.append(sign)
        have hl8 : (ss.map V.int).length ≤ 100000 := by
          rw [List.length_map]
          have := tx.1
          rw [List.length_append] at this
          omega
        refine hold (appVL rfl er8 hl8 (ev_var (v := .int (x : Int)) rfl) fun H9 s9 => ?_)
        have nt9 : NoTup [r] H9 := notup_of fun a ha => by
          rw [List.mem_singleton.mp ha]
          exact ⟨_, s9 _ _ er8, nt_lst _⟩
        have k9 : Keep [r] H9 (upd H9 r (.lst (ss.map V.int ++ [.int (x : Int)]))) := keep_upd (by simp)
        have sg' : Signs cs.length (s0 ++ (ss ++ [(x : Int)])) := fun z hz => by
          rw [← List.append_assoc] at hz
          rcases List.mem_append.mp hz with hz | hz
          · exact sg z hz
          · rw [List.mem_singleton.mp hz]
            omega
        refine ⟨_, ?_, ss ++ [(x : Int)], _, rfl, ?_, ⟨⟨dx, v1, v2, I, ?_, ?_, ?_, ?_⟩, ?_⟩, ?_, sg', ?_, ?_, rfl⟩
        · rw [← List.append_assoc, List.length_append (bs := [(x : Int)]), List.length_singleton]
          omega
        · exact fun b o nb eb => by
            have hb : b ≠ r := fun z => by
              rw [z, nr] at eb
              cases eb
            rw [upd_ne hb]
            exact s9 _ _ (kp8 b o nb eb)
        · exact k9 _ _ (by simp [nrp.symm]) (s9 _ _ ep8)
        · rw [← List.append_assoc, eT]
          exact dp_keep k9 nt9 (tupO_s3 _) (dp_same s9 _ _ c1')
        · rw [← List.append_assoc, eA]
          exact dp_keep k9 nt9 (tupO_plan _ _) (dp_same s9 _ _ c2')
        · exact dp_keep k9 nt9 (tupO_s3 _) (dp_same s9 _ _ c3')
        · rw [← List.append_assoc]
          exact k9 _ _ (by simp [nrl.symm]) (s9 _ _ el8)
        · rw [upd_same, List.map_append]
          rfl
        · rw [← List.append_assoc, List.length_append (bs := [(x : Int)]), List.length_singleton]
          omega
        · rw [← List.append_assoc, eT]
          exact wx
    · have hge := of_decide_eq_false c
      have e0 : m - (s0 ++ ss).length = 0 := by omega
      rw [e0]
      rfl
end

section
variable {P : Program} {w : World} {K : PySem.W.Frag} {mg : Str → Option Value} {base : Heap} {f : Addr} {fd : FuncData}
abbrev s__need_many : Stmt := topS 44
theorem sc__need_many : FnScope ["many"] ["many"] (defScope s__need_many) := ⟨rfl, rfl, rfl, by decide +kernel, rfl, by decide +kernel, by decide +kernel⟩

def needManyF : List PyData → Except Err PyData
  | [x] => if isWhole x 0 60 then .ok .none else .error .count
  | _ => .ok .none
abbrev sp_need_many (K : PySem.W.Frag) : Sp := PSpX K 1 needManyF
theorem ok_need_many (F : FnP K "_need_many" s__need_many f fd) (c_is_whole : Cal P w K mg base CX0 1 "is_whole" ["value", "least", "most"] (sp_is_whole K)) (x_BadCount : Exn K mg .count) {u4 : Tok} (g_LONGEST_TEXT : mg "LONGEST_TEXT" = some (.int 60 u4)) :
    FnOk P w K mg base (L2N.CX P w) 2 f fd ["many"] (sp_need_many K) := by
  refine F.ok sc__need_many (fun vs H Q E h => len1 h) (fun cdv A outer s H vs Q E hr h => ?_)
  obtain ⟨ds, hds, hl, kQ, kE⟩ := h
  obtain ⟨d, rfl⟩ : ∃ d, ds = [d] := match ds, hl with | [d], _ => ⟨d, rfl⟩
  obtain ⟨v, rfl, hd⟩ := dpaN1 hds
  refine ⟨_, (pss_one (ps_if (pt_not (pt_val (pe_f c_is_whole (hr.mono (by decide)) (pa_cons (pv 0) (pa_cons pe_int (pa_cons (pe_glob (v := .int 60) rfl g_LONGEST_TEXT ⟨_, rfl⟩) pa_nil)))))) (pss_one (L2N.ps_raise rfl (L2N.takes_of rfl rfl rfl rfl) (L2N.pmk_own PySem.F.excBase_ValueError x_BadCount.x x_BadCount.g x_BadCount.k (raises_own x_BadCount.b x_BadCount.t) rfl))) pss_nil)), ?_⟩
  walk_at "rd"
  refine ⟨v, d, 0, 60, rfl, hd, _, rfl, ?_⟩
  have e0 : needManyF [d] = if isWhole d 0 60 = true then .ok .none else .error .count := rfl
  cases ew : isWhole d 0 60 with
  | false =>
    rw [ew] at e0
    exact iteT (kE .count e0 H (Same.refl _))
  | true =>
    rw [ew] at e0
    exact iteF (kQ _ e0 .non H (Same.refl _) .non)
theorem needMany_ok {d r : PyData} (h : needManyF [d] = .ok r) : isWhole d 0 60 = true := by
  cases e : isWhole d 0 60 with
  | true => rfl
  | false =>
    rw [show needManyF [d] = .error .count from if_neg (by rw [e]; exact Bool.false_ne_true)] at h
    cases h
theorem needMany_err {d : PyData} {er : Err} (h : needManyF [d] = .error er) : er = .count ∧ isWhole d 0 60 = false := by
  cases e : isWhole d 0 60 with
  | false =>
    rw [show needManyF [d] = .error .count from if_neg (by rw [e]; exact Bool.false_ne_true)] at h
    cases h
    exact ⟨rfl, rfl⟩
  | true =>
    rw [show needManyF [d] = .ok .none from if_pos e] at h
    cases h
abbrev s_Reader___init__ : Stmt := inClass (topS 42) 0
theorem sc_Reader___init__ : FnScope ["self", "plan", "many"] ["self", "plan", "many"] (defScope s_Reader___init__) := ⟨rfl, rfl, rfl, by decide +kernel, rfl, by decide +kernel, by decide +kernel⟩

def sp_rinit (K : PySem.W.Frag) : Sp := fun vs H Q E => ∃ (p dx : Addr) (v u : V) (d x : PyData), vs = [.ref p, v, u] ∧ H p = some (.ins (rdC K) dx []) ∧ Dp K H v d ∧ Dp K H u x ∧
  (isPlan d = false → ∀ H', Same H H' → E (.ref (errC K .plan)) none H') ∧ (isPlan d = true → isWhole x 0 60 = false → ∀ H', Same H H' → E (.ref (errC K .count)) none H') ∧
  ∀ (cs : List Int) (g : Int) (m : Nat), d = planD cs g → Plan cs g → x = .int (m : Int) → m ≤ 60 → ∀ l H', H l = none → Keep [p] H H' → RdAt K (rdC K) H' p l cs g m [] → Q .non H'
theorem ok_rinit (F : FnM K "__init__" "Reader.__init__" s_Reader___init__ f fd) (T_Reader : ClsT K (rdC K) rdN) (c_need_plan : Cal P w K mg base (L2N.CX P w) 3 "need_plan" ["plan"] (sp_need_plan K)) (c__need_many : Cal P w K mg base (L2N.CX P w) 2 "_need_many" ["many"] (sp_need_many K))
    (g_WHOLE : mg "WHOLE" = some (.ref (He.ga K "WHOLE"))) (t_WHOLE : ∀ H, SqT K H (He.ga K "WHOLE") [.int 0, .int 1, .int 1]) : FnOk P w K mg base (L2N.CX P w) 4 f fd ["self", "plan", "many"] (sp_rinit K) := by
  refine F.ok sc_Reader___init__ (fun vs H Q E h => ?_) (fun cdv A outer s H vs Q E hr h => ?_)
  · obtain ⟨_, _, _, _, _, _, rfl, _⟩ := h
    rfl
  · obtain ⟨p, dx, v, u, d, x, rfl, hp, hd, hx, kP, kC, kQ⟩ := h
    refine ⟨_, (pss_hold (ps_expr (pe_fX c_need_plan (hr.mono (by decide)) (L2N.takes_of rfl rfl rfl rfl) (pa_cons (pv 1) pa_nil)))
      (pss_hold (ps_expr (pe_fX c__need_many (hr.mono (by decide)) (L2N.takes_of rfl rfl rfl rfl) (pa_cons (pv 2) pa_nil)))
      (pss_hold (ps_fld (pv 0) (pv 2) rfl)
      (pss_hold (ps_fld (pv 0) (pe_lst pa_nil) rfl)
      (pss_hold (ps_fld (pv 0) (pe_glob (v := .ref _) rfl g_WHOLE rfl) rfl)
      (pss_hold (ps_fld (pv 0) (pv 1) rfl)
      (pss_hold (ps_fld (pv 0) pe_int rfl)
      (pss_one (ps_fld (pv 0) (pe_glob (v := .ref _) rfl g_WHOLE rfl) rfl))))))))), ?_⟩
    have hW : ∀ H', Dp K H' (.ref (He.ga K "WHOLE")) whole3.d := fun H' => .tup (t_WHOLE H') (.cons (.int 0) (.cons (.int 1) (.cons (.int 1) .nil)))
    refine dropX (eds_cons (evd_var rfl hd) eds_nil) rfl (fun r H1 hr s1 => ?_) (fun e H1 he s1 => ?_)
    · obtain ⟨cs, g, rfl, pl⟩ := isPlan_ok (needPlan_yes hr)
      refine hold (dropX (eds_cons (evd_var rfl (dp_same s1 _ _ hx)) eds_nil) rfl (fun r2 H2 hr2 s2 => ?_) (fun e H2 he s2 => ?_))
      · obtain ⟨m, rfl, m0, m1⟩ := isWhole_ok (needMany_ok hr2)
        obtain ⟨m, rfl⟩ := Int.eq_ofNat_of_zero_le m0
        cases dp_int hx
        have t2 := s1.trans s2
        have l0 : ([] : List (Str × V)).length ≤ 0 := Nat.le_refl _
        refine hold (setFld T_Reader (by simp) rfl (t2 _ _ hp) (Nat.lt_of_le_of_lt l0 (by decide)) (ev_var rfl) fun H3 s3 => ?_)
        refine hold (setFldO (K := K) (ds := []) T_Reader (by simp) rfl upd_same (Nat.lt_of_le_of_lt (lp l0) (by decide)) (evo_lst eds_nil (by show 0 ≤ 100000; omega)) fun l vl H4 nl s4 e4 d4 => ?_)
        cases d4
        refine hold (setFld T_Reader (by simp) rfl upd_same (Nat.lt_of_le_of_lt (lp (lp l0)) (by decide)) ev_c fun H5 s5 => ?_)
        refine hold (setFld T_Reader (by simp) rfl upd_same (Nat.lt_of_le_of_lt (lp (lp (lp l0))) (by decide)) (ev_var rfl) fun H6 s6 => ?_)
        refine hold (setFld T_Reader (by simp) rfl upd_same (Nat.lt_of_le_of_lt (lp (lp (lp (lp l0)))) (by decide)) ev_c fun H7 s7 => ?_)
        refine hold (setFldL T_Reader (by simp) rfl upd_same (Nat.lt_of_le_of_lt (lp (lp (lp (lp (lp l0))))) (by decide)) ev_c fun H8 s8 => ?_)
        rw [rd_new]
        have kp : ∀ {A B : Hp} {o : HO}, Same A B → Keep [p] A (upd B p o) := fun s => (Same.keep s).trans (keep_upd (by simp))
        have k3 := kp (o := .ins (rdC K) dx (putF "_many" (.int (m : Int)) [])) (t2.trans s3)
        have k4 := k3.trans (kp (o := .ins (rdC K) dx (putF "_signs" (.ref l) (putF "_many" (.int (m : Int)) []))) s4)
        have hlp : l ≠ p := fun z => by
          rw [z, upd_same] at nl
          cases nl
        have hl0 : H l = none := by
          have h3 : H3 l = none := by
            rw [upd_ne hlp] at nl
            exact nl
          exact (t2.trans s3).free h3
        have el4 : upd H4 p (.ins (rdC K) dx (putF "_signs" (.ref l) (putF "_many" (.int (m : Int)) []))) l = some (.lst []) := by
          rw [upd_ne hlp]
          exact e4
        have el5 := (kp (o := .ins (rdC K) dx (putF "_stretch" (.ref (He.ga K "WHOLE")) (putF "_signs" (.ref l) (putF "_many" (.int (m : Int)) [])))) s5) l _ (by simp [hlp]) el4
        have el6 := (kp (o := .ins (rdC K) dx (putF "_plan" v (putF "_stretch" (.ref (He.ga K "WHOLE")) (putF "_signs" (.ref l) (putF "_many" (.int (m : Int)) []))))) s6) l _ (by simp [hlp]) el5
        have el7 := (kp (o := .ins (rdC K) dx (putF "_taken" (.int 0) (putF "_plan" v (putF "_stretch" (.ref (He.ga K "WHOLE")) (putF "_signs" (.ref l) (putF "_many" (.int (m : Int)) [])))))) s7) l _ (by simp [hlp]) el6
        have el8 := (kp (o := .ins (rdC K) dx (rdF (m : Int) 0 l (.ref (He.ga K "WHOLE")) v (.ref (He.ga K "WHOLE")))) s8) l _ (by simp [hlp]) el7
        have kAll : Keep [p] H (upd H8 p (.ins (rdC K) dx (rdF (m : Int) 0 l (.ref (He.ga K "WHOLE")) v (.ref (He.ga K "WHOLE"))))) := (((k4.trans (kp s5)).trans (kp s6)).trans (kp s7)).trans (kp s8)
        refine kQ cs g m rfl pl rfl (by omega) l _ hl0 kAll ?_
        show RdG K (rdC K) _ p l cs g m [] (sgn cs g m [])
        rw [sgn_nil pl]
        exact ⟨⟨dx, _, v, _, upd_same, hW _, dp_ins kAll hp hd, hW _⟩, el8⟩
      · obtain ⟨rfl, hw⟩ := needMany_err he
        exact kC (needPlan_yes hr) hw H2 (s1.trans s2)
    · obtain ⟨rfl, hw⟩ := needPlan_no he
      exact kP hw H1 s1
abbrev s_Reader_take : Stmt := inClass (topS 42) 1
theorem sc_Reader_take : FnScope ["self", "figures"] ["self", "figures"] (defScope s_Reader_take) := ⟨rfl, rfl, rfl, by decide +kernel, rfl, by decide +kernel, by decide +kernel⟩

def sp_rtake (K : PySem.W.Frag) : Sp := fun vs H Q E => ∃ (p l : Addr) (cs as : List Int) (g : Int) (m : Nat) (u : V) (x : PyData), vs = [.ref p, u] ∧ RdAt K (rdC K) H p l cs g m as ∧ RdO cs g m as ∧ Dp K H u x ∧
  (∀ fs : List Int, x = .list (fs.map PyData.int) → Bits fs → as.length + fs.length ≤ 4000 → ∀ r H', H r = none → Keep [p, l] H H' → H' r = some (.lst (((sgn cs g m (as ++ fs)).drop (sgn cs g m as).length).map V.int)) → RdAt K (rdC K) H' p l cs g m (as ++ fs) → Q (.ref r) H') ∧
  ((∀ fs : List Int, x = .list (fs.map PyData.int) → Bits fs → as.length + fs.length ≤ 4000 → False) → ∀ H', Same H H' → E (.ref (errC K .figures)) none H')
theorem needFig_no {d : PyData} {e : Err} (h : needFiguresF [d] = .error e) : e = .figures ∧ isWholeList d 4000 0 1 = false := by
  cases hw : isWholeList d 4000 0 1 with
  | false =>
    rw [show needFiguresF [d] = .error .figures from if_neg (by rw [hw]; exact Bool.false_ne_true)] at h
    cases h
    exact ⟨rfl, rfl⟩
  | true =>
    rw [show needFiguresF [d] = .ok .none from if_pos hw] at h
    cases h
theorem needFig_ok {d r : PyData} (h : needFiguresF [d] = .ok r) : isWholeList d 4000 0 1 = true := by
  cases hw : isWholeList d 4000 0 1 with
  | true => rfl
  | false =>
    rw [show needFiguresF [d] = .error .figures from if_neg (by rw [hw]; exact Bool.false_ne_true)] at h
    cases h
theorem ok_rtake (F : FnM K "take" "Reader.take" s_Reader_take f fd) (T_Reader : ClsT K (rdC K) rdN) (c_need_figures : Cal P w K mg base (L2N.CX P w) 4 "need_figures" ["figures"] (sp_need_figures K)) (c_lengthened : Cal P w K mg base CX0 1 "lengthened" ["stretch", "figures"] (sp_lengthened K))
    (c_Reader__further : MCal P w K mg base CX0 (rdC K) 7 "_further" ["self"] (sp_further K)) (x_BadFigures : Exn K mg .figures) (z_len : mg "len" = none) {u4 : Tok} (g_MOST_FIGURES : mg "MOST_FIGURES" = some (.int 4000 u4)) :
    FnOk P w K mg base (L2N.CX P w) 8 f fd ["self", "figures"] (sp_rtake K) := by
  refine F.ok sc_Reader_take (fun vs H Q E h => ?_) (fun cdv A outer s H vs Q E hr h => ?_)
  · obtain ⟨_, _, _, _, _, _, _, _, rfl, _⟩ := h
    rfl
  · obtain ⟨p, l, cs, as, g, m, u, x, rfl, R, O, hx, kQ, kE⟩ := h
    refine ⟨_, (pss_hold (ps_expr (pe_fX c_need_figures (hr.mono (by decide)) (L2N.takes_of rfl rfl rfl rfl) (pa_cons (pv 1) pa_nil)))
      (pss_hold (ps_if (pt_cmpR op_gt (pe_op op_add (pe_fld (pv 0) rfl) (pe_callB (lenK (K := K) rfl) (by rfl) z_len (by decide +kernel) (pa_cons (pv 1) pa_nil))) (pe_glob (v := .int 4000) rfl g_MOST_FIGURES ⟨_, rfl⟩) (nomark _)) (pss_one (L2N.ps_raise rfl (L2N.takes_of rfl rfl rfl rfl) (L2N.pmk_own PySem.F.excBase_ValueError x_BadFigures.x x_BadFigures.g x_BadFigures.k (raises_own x_BadFigures.b x_BadFigures.t) rfl))) pss_nil)
      (pss_hold (ps_fldaug (pv 0) (pe_callB (lenK (K := K) rfl) (by rfl) z_len (by decide +kernel) (pa_cons (pv 1) pa_nil)) in_add)
      (pss_hold (ps_fld (pv 0) (pe_f c_lengthened (hr.mono (by decide)) (pa_cons (pe_fld (pv 0) rfl) (pa_cons (pv 1) pa_nil))) rfl)
      (pss_one (ps_ret (pe_mX0 T_Reader.cl c_Reader__further (hr.mono (by decide)) (fun σ => pass0At σ) (pv 0)))))))), ?_⟩
    refine dropX (eds_cons (evd_var rfl hx) eds_nil) rfl (fun r H1 hr s1 => ?_) (fun e H1 he s1 => ?_)
    · obtain ⟨fs, rfl, fl, fb⟩ := isBits_ok (needFig_ok hr)
      have R1 := R.same s1
      have hx1 := dp_same s1 _ _ hx
      obtain ⟨dx, S, PL, I, e1, dS, dP, dI⟩ := R1.at_
      have hfm : (fs.map PyData.int).length = fs.length := List.length_map ..
      refine hold (ifB (b := decide ((as.length : Int) + (fs.length : Int) > 4000)) (evb_test (ev_op0 (g := fun i j => V.bl (decide (i > j))) (ev_op0 (g := fun i j => V.int (i + j)) (ev_fld T_Reader (by simp) rfl e1 rd_taken) (EvV.is (ev_lenL (evd_var rfl hx1)) (by rw [hfm]))) ev_c)) (fun c H2 s2 => ?_) (fun c H2 s2 => ?_))
      · have hgt := of_decide_eq_true c
        refine kE (fun fs' e' _ hle => ?_) H2 (s1.trans s2)
        have e2 : fs = fs' := by
          have := congrArg (fun d => itemsOf d) e'
          simp only [itemsOf, toI_map] at this
          exact this
        subst e2
        omega
      · have hle := of_decide_eq_false c
        have hx2 := dp_same s2 _ _ hx1
        have e2 := s2 _ _ e1
        refine hold (augFld T_Reader (by simp) rfl e2 rd_len rd_taken (EvV.is (ev_lenL (evd_var rfl hx2)) (by rw [hfm])) fun H3 s3 => ?_)
        rw [rd_ptaken]
        have k3 : Keep [p] H3 (upd H3 p (.ins (rdC K) dx (rdF m ((as.length : Int) + (fs.length : Int)) l S PL I))) := keep_upd (by simp)
        have e3 := s3 _ _ e2
        have s23 := s2.trans s3
        have dS3 := dp_ins k3 e3 (dp_same s23 _ _ dS)
        have dP3 := dp_ins k3 e3 (dp_same s23 _ _ dP)
        have dI3 := dp_ins k3 e3 (dp_same s23 _ _ dI)
        have hx3 := dp_ins k3 e3 (dp_same s3 _ _ hx2)
        have lp := R.ne
        have sg3 := k3 l _ (by simp [lp]) (s23 _ _ R1.sg)
        have ep3 : upd H3 p (.ins (rdC K) dx (rdF m ((as.length : Int) + (fs.length : Int)) l S PL I)) p = some (.ins (rdC K) dx (rdF m ((as.length : Int) + (fs.length : Int)) l S PL I)) := upd_same
        have kk3 : Keep [p] H (upd H3 p (.ins (rdC K) dx (rdF m ((as.length : Int) + (fs.length : Int)) l S PL I))) := (Same.keep (s1.trans s23)).trans k3
        generalize upd H3 p (.ins (rdC K) dx (rdF m ((as.length : Int) + (fs.length : Int)) l S PL I)) = G at dS3 dP3 dI3 hx3 sg3 ep3 kk3
        refine hold (setFldD T_Reader (by simp) rfl ep3 rd_len (evd_lengthened ((ev_fld T_Reader (by simp) rfl ep3 rd_inner).dat fun J sJ => dp_same sJ _ _ dI3) (evd_var rfl hx3)) fun v4 H4 s4 d4 => ?_)
        rw [rd_pinner]
        have k4 : Keep [p] H4 (upd H4 p (.ins (rdC K) dx (rdF m ((as.length : Int) + (fs.length : Int)) l S PL v4))) := keep_upd (by simp)
        have e4 := s4 _ _ ep3
        have ec : (as.length : Int) + (fs.length : Int) = ((as ++ fs).length : Int) := by rw [List.length_append]; omega
        have R4 : RdG K (rdC K) (upd H4 p (.ins (rdC K) dx (rdF m ((as.length : Int) + (fs.length : Int)) l S PL v4))) p l cs g m (as ++ fs) (sgn cs g m as) := by
          refine ⟨⟨dx, S, PL, v4, ?_, dp_ins k4 e4 (dp_same s4 _ _ dS3), dp_ins k4 e4 (dp_same s4 _ _ dP3), dp_ins k4 e4 d4⟩, k4 l _ (by simp [lp]) (s4 _ _ sg3)⟩
          rw [upd_same, ec]
        have kk4 : Keep [p] H (upd H4 p (.ins (rdC K) dx (rdF m ((as.length : Int) + (fs.length : Int)) l S PL v4))) := (kk3.trans (Same.keep s4)).trans k4
        generalize upd H4 p (.ins (rdC K) dx (rdF m ((as.length : Int) + (fs.length : Int)) l S PL v4)) = G4 at R4 kk4
        obtain ⟨dx4, S4, P4, I4, eG, _⟩ := R4.at_
        obtain ⟨q1, q2⟩ := sgn_signs O.pl m as
        refine hold ⟨_, rfl, p, dx4, _, rfl, eG, rd_no (by decide +kernel), p, l, cs, as ++ fs, sgn cs g m as, g, m, rfl, R4, ⟨O.pl, O.m60, O.bits.both fb, by rw [List.length_append]; omega⟩, q2, q1, sgn_more O.pl O.bits fb, fun r H5 nr k5 e5 R5 => ?_⟩
        have nr0 : H r = none := by
          cases e : H r with
          | none => rfl
          | some o =>
            have hrp : r ≠ p := fun z => by
              rw [z, eG] at nr
              cases nr
            have := kk4 r o (by simp [hrp]) e
            rw [this] at nr
            cases nr
        exact kQ fs rfl fb (by omega) r H5 nr0 ((kk4.mono (by simp)).trans k5) e5 R5
    · obtain ⟨rfl, hw⟩ := needFig_no he
      refine kE (fun fs e hb hle => ?_) H1 s1
      subst e
      rw [isBits_of hb (by omega)] at hw
      cases hw
end

section
variable {P : Program} {w : World} {K : PySem.W.Frag} {mg : Str → Option Value} {base : Heap} {f : Addr} {fd : FuncData}
abbrev wrC (K : PySem.W.Frag) : Addr := He.ga K "Writer"
theorem ev_bits {te : TE} {σ : L2.St} {H : Hp} {i : Int} (h : EvV te σ H (.int i)) : EvV (tBits te) σ H (.int (Builtin.Int.intBits i : Nat)) := fun H1 Q s1 q => h H1 _ s1 fun H2 s2 => ⟨i, rfl, q H2 s2⟩
theorem lastT {a : TS} {D : Ends} {σ : L2.St} {H : Hp} (h : tSeq a tNext D σ H) : a D σ H := h
abbrev s_figures_around : Stmt := topS 34
theorem sc_figures_around : FnScope ["stretch", "low", "wide", "parts", "many", "first", "last", "differing"] ["stretch"] (defScope s_figures_around) := ⟨rfl, rfl, rfl, by decide +kernel, rfl, by decide +kernel, by decide +kernel⟩

def sp_figures_around (K : PySem.W.Frag) : Sp := fun vs H Q _ => ∃ (v : V) (s : S3) (n : Nat), vs = [v] ∧ Dp K H v s.d ∧ s.Ok n ∧ 0 < n ∧ n ≤ 5000 ∧ ∀ p H', H p = none → Same H H' → H' p = some (.lst ((sureOf s).map V.int)) → Q (.ref p) H'
theorem ok_figures_around (F : FnP K "figures_around" s_figures_around f fd) (c__fewest : Cal P w K mg base CX0 1 "_fewest" ["stretch"] (sp_fewest K)) (c__by_twos : Cal P w K mg base CX0 1 "_by_twos" ["number", "many"] (sp_by_twos K)) :
    FnOk P w K mg base CX0 2 f fd ["stretch"] (sp_figures_around K) := by
  refine F.ok sc_figures_around (fun vs H Q E h => ?_) (fun cdv A outer s H vs Q E hr h => ?_)
  · obtain ⟨_, _, _, rfl, _⟩ := h
    rfl
  · obtain ⟨v, s, n, rfl, hv, ok, h0, hn, q⟩ := h
    refine ⟨_, PSs.nox (pss_hold (ps_asg (pv 0) (pg_tupK (K := K) (n := 3) rfl rfl (pgs_cons (pg_name (i := 1) sc_figures_around.nd rfl (.inl rfl)) (pgs_cons (pg_name (i := 2) sc_figures_around.nd rfl (.inl rfl)) (pgs_cons (pg_name (i := 3) sc_figures_around.nd rfl (.inl rfl)) pgs_nil)))))
      (pss_hold (ps_set (i := 4) sc_figures_around.nd rfl (Or.inl rfl) (pe_f c__fewest (hr.mono (by decide)) (pa_cons (pv 0) pa_nil)))
      (pss_hold (ps_set (i := 5) sc_figures_around.nd rfl (Or.inl rfl) (pe_op op_fdivW (pe_op op_shlP (pv 1) (pv 4)) (pv 3)))
      (pss_hold (ps_set (i := 6) sc_figures_around.nd rfl (Or.inl rfl) (pe_op op_fdivW (pe_op op_sub (pe_op op_shlP (pe_op op_add (pv 1) (pv 2)) (pv 4)) pe_int) (pv 3)))
      (pss_hold (ps_set (i := 7) sc_figures_around.nd rfl (Or.inl rfl) (pe_bits (pe_op op_xor (pv 5) (pv 6))))
      (pss_one (ps_ret (pe_f c__by_twos (hr.mono (by decide)) (pa_cons (pe_op op_shrP (pv 5) (pv 7)) (pa_cons (pe_op op_sub (pv 4) (pv 7)) pa_nil)))))))))), ?_⟩
    have gd := ok.good
    refine unpS (evd_var rfl hv) fun H1 s1 => hold (ev_fewest (evd_var rfl (dp_same s1 _ _ hv)) gd fun k H2 hk s2 => ?_)
    have kn := wideK_le ok hk
    have dk := aDiff_le gd k
    refine hold (asgV (v := .int (aFirst s k)) (EvV.is (ev_op (C := CDivW) (g := fun i j => V.int (i / j)) (ev_shl (ev_var rfl) (ev_var rfl) (shl_ok ok.labs (by omega))) (ev_var rfl) (wide_div (by have := ok.t1; omega) ok.tabs h0 (by omega))) rfl) fun H3 s3 => ?_)
    refine hold (asgV (v := .int (aLast s k)) (EvV.is (ev_op (C := CDivW) (g := fun i j => V.int (i / j)) (ev_op0 (g := fun i j => V.int (i - j)) (ev_shl (ev_op0 (g := fun i j => V.int (i + j)) (ev_var rfl) (ev_var rfl)) (ev_var rfl) (shl_ok ok.lwabs (by omega))) ev_c) (ev_var rfl) (wide_div (by have := ok.t1; omega) ok.tabs h0 (by omega))) rfl) fun H4 s4 => ?_)
    refine hold (asgV (v := .int ((aDiff s k : Nat) : Int)) (EvV.is (ev_bits (ev_op0 (g := fun i j => V.int (Builtin.bitXor i j)) (ev_var rfl) (ev_var rfl))) rfl) fun H5 s5 => ?_)
    have s15 := (((s1.trans s2).trans s3).trans s4).trans s5
    refine hold (retO (evo_by_twos (x := aFirst s k / 2 ^ aDiff s k) (k := k - aDiff s k) (EvV.is (ev_shr (ev_var rfl) (ev_var rfl)) rfl) (EvV.is (ev_op0 (g := fun i j => V.int (i - j)) (ev_var rfl) (ev_var rfl)) (by rw [Int.natCast_sub dk])) (by omega)) fun p vs H6 np s6 e6 d6 => ?_)
    rw [around_ok gd hk] at d6
    exact q p H6 (s15.free np) (s15.trans s6) (by rw [dpa_ints_eq d6] at e6; exact e6)
theorem evo_figures_around {te : TE} {σ : L2.St} {H : Hp} {s : S3} {n : Nat} (h : EvD K te σ H s.d) (ok : s.Ok n) (h0 : 0 < n) (hn : n ≤ 5000) : EvO K (tCall (sp_figures_around K) [] E0 (tCons te tNil)) σ H ((sureOf s).map PyData.int) :=
  evo_call (eds_cons h eds_nil) fun vs H1 Q s1 d1 q => by
    obtain ⟨v, rfl, a1⟩ := dpaN1 d1
    exact ⟨_, s, n, rfl, a1, ok, h0, hn, fun p H2 np s2 e2 => q p _ H2 np s2 e2 (dpa_ints _)⟩
abbrev s_Writer_told : Stmt := inClass (topS 40) 3
theorem sc_Writer_told : FnScope ["self"] ["self"] (defScope s_Writer_told) := ⟨rfl, rfl, rfl, by decide +kernel, rfl, by decide +kernel, by decide +kernel⟩

def sp_wtold (K : PySem.W.Frag) : Sp := fun vs H Q _ => ∃ (p l : Addr) (cs ss fs : List Int) (g : Int) (e : Bool), vs = [.ref p] ∧ WrG K (wrC K) H p l cs g ss fs e ∧ ∀ r H', H r = none → Same H H' → H' r = some (.lst (fs.map V.int)) → Q (.ref r) H'
theorem ok_wtold (F : FnM K "told" "Writer.told" s_Writer_told f fd) (T_Writer : ClsT K (wrC K) wrN) (z_list : mg "list" = none) : FnOk P w K mg base CX0 1 f fd ["self"] (sp_wtold K) := by
  refine F.ok sc_Writer_told (fun vs H Q E h => ?_) (fun cdv A outer s H vs Q E hr h => ?_)
  · obtain ⟨_, _, _, _, _, _, _, rfl, _⟩ := h
    rfl
  · obtain ⟨p, l, cs, ss, fs, g, e, rfl, R, q⟩ := h
    refine ⟨_, PSs.nox (pss_one (ps_ret (pe_callTy (listK (K := K) rfl) (by rfl) z_list (by decide +kernel) (pa_cons (pe_fld (pv 0) rfl) pa_nil)))), ?_⟩
    obtain ⟨dx, S, PL, eP, d1, d2⟩ := R.at_
    exact retO (evd_listOfL (ds := fs.map PyData.int) ((ev_fld T_Writer (by simp) rfl eP wr_figures).dat fun H2 s2 => dp_list (s2 _ _ R.fg))) fun r vs H1 nr s1 e1 d4 => q r H1 nr s1 (by rw [dpa_ints_eq d4] at e1; exact e1)
theorem evo_wtold {te : TE} {σ : L2.St} {H : Hp} {p l : Addr} {cs ss fs : List Int} {g : Int} {e : Bool} (h : EvV te σ H (.ref p)) (R : WrG K (wrC K) H p l cs g ss fs e) : EvO K (tMX (wrC K) "told" (sp_wtold K) (fun _ => E0) te tNil) σ H (fs.map PyData.int) := fun H1 Q s1 k =>
  h H1 _ s1 fun H2 s2 => by
    have R2 := R.same (s1.trans s2)
    obtain ⟨dx, S, PL, eP, _⟩ := R2.at_
    exact ⟨p, dx, _, rfl, eP, wr_no (by decide +kernel), p, l, cs, ss, fs, g, e, rfl, R2, fun r H3 nr s3 e3 => k r _ H3 (s2.free nr) (s2.trans s3) e3 (dpa_ints _)⟩
abbrev s_Writer__refuse_ended : Stmt := inClass (topS 40) 4
theorem sc_Writer__refuse_ended : FnScope ["self"] ["self"] (defScope s_Writer__refuse_ended) := ⟨rfl, rfl, rfl, by decide +kernel, rfl, by decide +kernel, by decide +kernel⟩

def sp_refuse_ended (K : PySem.W.Frag) : Sp := fun vs H Q E => ∃ (p l : Addr) (cs ss fs : List Int) (g : Int) (e : Bool), vs = [.ref p] ∧ WrG K (wrC K) H p l cs g ss fs e ∧ (e = false → ∀ H', Same H H' → Q .non H') ∧ (e = true → ∀ H', Same H H' → E (.ref (errC K .ended)) none H')
theorem ok_refuse_ended (F : FnM K "_refuse_ended" "Writer._refuse_ended" s_Writer__refuse_ended f fd) (T_Writer : ClsT K (wrC K) wrN) (x_Ended : Exn K mg .ended) : FnOk P w K mg base (L2N.CX P w) 1 f fd ["self"] (sp_refuse_ended K) := by
  refine F.ok sc_Writer__refuse_ended (fun vs H Q E h => ?_) (fun cdv A outer s H vs Q E hr h => ?_)
  · obtain ⟨_, _, _, _, _, _, _, rfl, _⟩ := h
    rfl
  · obtain ⟨p, l, cs, ss, fs, g, e, rfl, R, kQ, kE⟩ := h
    refine ⟨_, (pss_one (ps_if (pt_val (pe_fld (pv 0) rfl)) (pss_one (L2N.ps_raise rfl (L2N.takes_of rfl rfl rfl rfl) (L2N.pmk_own PySem.F.excBase_ValueError x_Ended.x x_Ended.g x_Ended.k (raises_own x_Ended.b x_Ended.t) rfl))) pss_nil)), ?_⟩
    obtain ⟨dx, S, PL, eP, d1, d2⟩ := R.at_
    refine (evb_b (ev_fld T_Writer (by simp) rfl eP wr_ended)) H _ (Same.refl _) fun H1 s1 => ?_
    cases e with
    | true => exact iteT (kE rfl H1 s1)
    | false => exact iteF (kQ rfl H1 s1)
abbrev s_Writer__tell : Stmt := inClass (topS 40) 5
theorem sc_Writer__tell : FnScope ["self", "figures", "fresh"] ["self", "figures"] (defScope s_Writer__tell) := ⟨rfl, rfl, rfl, by decide +kernel, rfl, by decide +kernel, by decide +kernel⟩

def sp_wtell (K : PySem.W.Frag) : Sp := fun vs H Q _ => ∃ (p l x : Addr) (cs ss fs gs : List Int) (g : Int) (e : Bool), vs = [.ref p, .ref x] ∧ WrG K (wrC K) H p l cs g ss fs e ∧ H x = some (.lst (gs.map V.int)) ∧
  ∀ r H', H r = none → Keep [p] H H' → H' r = some (.lst ((gs.drop fs.length).map V.int)) → WrG K (wrC K) H' p x cs g ss gs e → Q (.ref r) H'
theorem ok_wtell (F : FnM K "_tell" "Writer._tell" s_Writer__tell f fd) (T_Writer : ClsT K (wrC K) wrN) (z_len : mg "len" = none) : FnOk P w K mg base CX0 1 f fd ["self", "figures"] (sp_wtell K) := by
  refine F.ok sc_Writer__tell (fun vs H Q E h => ?_) (fun cdv A outer s H vs Q E hr h => ?_)
  · obtain ⟨_, _, _, _, _, _, _, _, _, rfl, _⟩ := h
    rfl
  · obtain ⟨p, l, x, cs, ss, fs, gs, g, e, rfl, R, hx, q⟩ := h
    refine ⟨_, PSs.nox (pss_hold (ps_set (i := 2) sc_Writer__tell.nd rfl (Or.inl rfl) (pe_slice (sl_listK (K := K) rfl) (pv 1) (po_some (pe_callB (lenK (K := K) rfl) (by rfl) z_len (by decide +kernel) (pa_cons (pe_fld (pv 0) rfl) pa_nil))) po_none))
      (pss_hold (ps_fld (pv 0) (pv 1) rfl)
      (pss_one (ps_ret (pv 2))))), ?_⟩
    obtain ⟨dx, S, PL, eP, d1, d2⟩ := R.at_
    have hfm : (fs.map PyData.int).length = fs.length := List.length_map ..
    refine asgO (K := K) (ds := (gs.drop fs.length).map PyData.int) (EvO.is (evo_dropL2 (n := (fs.length : Int)) (evd_var rfl (dp_list (ns := gs) hx)) (EvV.is (ev_lenL (ds := fs.map PyData.int) ((ev_fld T_Writer (by simp) rfl eP wr_figures).dat fun H2 s2 => dp_list (s2 _ _ R.fg))) (by rw [hfm])) (by omega)) (by rw [List.map_drop, Int.toNat_natCast])) fun r vs1 H1 nr s1 e1 d3 => ?_
    have v1 := dpa_ints_eq d3
    subst v1
    clear d3
    have nep : ∀ {y : Addr} {xs : List V} {J : Hp}, J y = some (.lst xs) → J p = some (.ins (wrC K) dx (wrF ss.length S PL l e)) → y ≠ p := fun h h2 z => by
      rw [z, h2] at h
      cases h
    have nrp : r ≠ p := nep e1 (s1 _ _ eP)
    have nxp : x ≠ p := nep hx eP
    refine hold (setFld T_Writer (by simp) rfl (s1 _ _ eP) wr_len (ev_var rfl) fun H2 s2 => ?_)
    rw [wr_pfigures]
    have k2 : Keep [p] H2 (upd H2 p (.ins (wrC K) dx (wrF ss.length S PL x e))) := keep_upd (by simp)
    have s12 := s1.trans s2
    have nt2 : NoTup [p] H2 := (R.same s12).nt
    refine hold (retV (ev_var rfl) fun H3 s3 => q r H3 nr (((Same.keep s12).trans k2).trans (Same.keep s3)) (s3 _ _ (k2 r _ (by simp [nrp]) (s2 _ _ e1))) (WrG.same ⟨⟨dx, S, PL, upd_same, dp_keep k2 nt2 (tupO_s3 _) (dp_same s12 _ _ d1), dp_keep k2 nt2 (tupO_plan _ _) (dp_same s12 _ _ d2)⟩, k2 x _ (by simp [nxp]) (s12 _ _ hx)⟩ s3))
abbrev s_Writer_end : Stmt := inClass (topS 40) 2
theorem sc_Writer_end : FnScope ["self"] ["self"] (defScope s_Writer_end) := ⟨rfl, rfl, rfl, by decide +kernel, rfl, by decide +kernel, by decide +kernel⟩

def sp_wend (K : PySem.W.Frag) : Sp := fun vs H Q E => ∃ (p l : Addr) (cs ss fs : List Int) (g : Int) (e : Bool), vs = [.ref p] ∧ WrG K (wrC K) H p l cs g ss fs e ∧ Plan cs g ∧ Text cs.length ss ∧ (e = true → ∀ H', Same H H' → E (.ref (errC K .ended)) none H') ∧
  (e = false → ∀ x r H', H x = none → H r = none → x ≠ r → Keep [p] H H' → H' r = some (.lst (((figsIn (textS cs g ss)).drop fs.length).map V.int)) → WrG K (wrC K) H' p x cs g ss (figsIn (textS cs g ss)) true → Q (.ref r) H')
theorem ok_wend (F : FnM K "end" "Writer.end" s_Writer_end f fd) (T_Writer : ClsT K (wrC K) wrN) (c_Writer__refuse_ended : MCal P w K mg base (L2N.CX P w) (wrC K) 1 "_refuse_ended" ["self"] (sp_refuse_ended K)) (c_Writer__tell : MCal P w K mg base CX0 (wrC K) 1 "_tell" ["self", "figures"] (sp_wtell K))
    (c_figures_in : Cal P w K mg base CX0 2 "figures_in" ["stretch"] (sp_figures_in K)) : FnOk P w K mg base (L2N.CX P w) 3 f fd ["self"] (sp_wend K) := by
  refine F.ok sc_Writer_end (fun vs H Q E h => ?_) (fun cdv A outer s H vs Q E hr h => ?_)
  · obtain ⟨_, _, _, _, _, _, _, rfl, _⟩ := h
    rfl
  · obtain ⟨p, l, cs, ss, fs, g, e, rfl, R, pl, tx, kE, kQ⟩ := h
    refine ⟨_, (pss_hold (ps_expr (pe_mX0 T_Writer.cl c_Writer__refuse_ended (hr.mono (by decide)) (fun σ => L2N.passAt (L2N.takes_of rfl rfl rfl rfl) σ) (pv 0)))
      (pss_hold (ps_fld (pv 0) pe_bl rfl)
      (pss_one (ps_ret (pe_mX T_Writer.cl c_Writer__tell (hr.mono (by decide)) (fun σ => pass0At σ) (pv 0) (pa_cons (pe_f c_figures_in (hr.mono (by decide)) (pa_cons (pe_fld (pv 0) rfl) pa_nil)) pa_nil)))))), ?_⟩
    obtain ⟨dx, S, PL, eP, _⟩ := R.at_
    refine ⟨_, rfl, p, dx, _, rfl, eP, wr_no (by decide +kernel), p, l, cs, ss, fs, g, e, rfl, R, fun ee H1 s1 => ?_, fun ee H1 s1 => kE ee H1 s1⟩
    subst ee
    have R1 := R.same s1
    obtain ⟨dx, S, PL, eP, d1, d2⟩ := R1.at_
    refine hold (setFld T_Writer (by simp) rfl eP wr_len ev_c fun H2 s2 => ?_)
    rw [wr_pended]
    have k2 : Keep [p] H2 (upd H2 p (.ins (wrC K) dx (wrF ss.length S PL l true))) := keep_upd (by simp)
    have nt2 : NoTup [p] H2 := (R1.same s2).nt
    have R2 : WrG K (wrC K) (upd H2 p (.ins (wrC K) dx (wrF ss.length S PL l true))) p l cs g ss fs true := ⟨⟨dx, S, PL, upd_same, dp_keep k2 nt2 (tupO_s3 _) (dp_same s2 _ _ d1), dp_keep k2 nt2 (tupO_plan _ _) (dp_same s2 _ _ d2)⟩, k2 l _ (by simp [R1.ne]) (s2 _ _ R1.fg)⟩
    have kk : Keep [p] H (upd H2 p (.ins (wrC K) dx (wrF ss.length S PL l true))) := (Same.keep (s1.trans s2)).trans k2
    generalize upd H2 p (.ins (wrC K) dx (wrF ss.length S PL l true)) = G at R2 kk
    clear R1 d1 d2 eP k2 nt2
    obtain ⟨dx, S, PL, eP, d1, d2⟩ := R2.at_
    have st : ∀ y ∈ [p], ∃ o, G y = some o := fun y hy => by rw [List.mem_singleton.mp hy]; exact ⟨_, eP⟩
    refine hold ⟨_, rfl, p, dx, _, rfl, eP, wr_no (by decide +kernel), (evo_figures_in ((ev_fld T_Writer (by simp) rfl eP wr_stretch).dat fun J sJ => dp_same sJ _ _ d1) (textS_ok pl tx) (by omega) (by omega)).run fun x vx H3 nx s3 ex dx3 => ?_⟩
    rw [dpa_ints_eq dx3] at ex
    refine ⟨p, l, x, cs, ss, fs, figsIn (textS cs g ss), g, true, rfl, R2.same s3, ex, fun r H4 nr k4 er R4 => ?_⟩
    have xr : x ≠ r := fun z => by
      rw [← z, ex] at nr
      cases nr
    exact kQ rfl x r H4 (keep_free kk st nx) (keep_free kk st (s3.free nr)) xr ((kk.trans (Same.keep s3)).trans k4) er R4
end

section
variable {P : Program} {w : World} {K : PySem.W.Frag} {mg : Str → Option Value} {base : Heap} {f : Addr} {fd : FuncData}
abbrev s_Writer___init__ : Stmt := inClass (topS 40) 0
theorem sc_Writer___init__ : FnScope ["self", "plan"] ["self", "plan"] (defScope s_Writer___init__) := ⟨rfl, rfl, rfl, by decide +kernel, rfl, by decide +kernel, by decide +kernel⟩

def sp_winit (K : PySem.W.Frag) : Sp := fun vs H Q E => ∃ (p dx : Addr) (v : V) (d : PyData), vs = [.ref p, v] ∧ H p = some (.ins (wrC K) dx []) ∧ Dp K H v d ∧
  (isPlan d = false → ∀ H', Same H H' → E (.ref (errC K .plan)) none H') ∧
  ∀ (cs : List Int) (g : Int), d = planD cs g → Plan cs g → ∀ l H', H l = none → Keep [p] H H' → WrG K (wrC K) H' p l cs g [] [] false → Q .non H'
theorem ok_winit (F : FnM K "__init__" "Writer.__init__" s_Writer___init__ f fd) (T_Writer : ClsT K (wrC K) wrN) (c_need_plan : Cal P w K mg base (L2N.CX P w) 3 "need_plan" ["plan"] (sp_need_plan K))
    (g_WHOLE : mg "WHOLE" = some (.ref (He.ga K "WHOLE"))) (t_WHOLE : ∀ H, SqT K H (He.ga K "WHOLE") [.int 0, .int 1, .int 1]) : FnOk P w K mg base (L2N.CX P w) 4 f fd ["self", "plan"] (sp_winit K) := by
  refine F.ok sc_Writer___init__ (fun vs H Q E h => ?_) (fun cdv A outer s H vs Q E hr h => ?_)
  · obtain ⟨_, _, _, _, rfl, _⟩ := h
    rfl
  · obtain ⟨p, dx, v, d, rfl, hp, hd, kP, kQ⟩ := h
    refine ⟨_, (pss_hold (ps_expr (pe_fX c_need_plan (hr.mono (by decide)) (L2N.takes_of rfl rfl rfl rfl) (pa_cons (pv 1) pa_nil)))
      (pss_hold (ps_fld (pv 0) pe_int rfl)
      (pss_hold (ps_fld (pv 0) (pe_glob (v := .ref _) rfl g_WHOLE rfl) rfl)
      (pss_hold (ps_fld (pv 0) (pv 1) rfl)
      (pss_hold (ps_fld (pv 0) (pe_lst pa_nil) rfl)
      (pss_one (ps_fld (pv 0) pe_bl rfl))))))), ?_⟩
    have hW : ∀ H', Dp K H' (.ref (He.ga K "WHOLE")) whole3.d := fun H' => .tup (t_WHOLE H') (.cons (.int 0) (.cons (.int 1) (.cons (.int 1) .nil)))
    refine dropX (eds_cons (evd_var rfl hd) eds_nil) rfl (fun r H1 hr s1 => ?_) (fun e H1 he s1 => ?_)
    · obtain ⟨cs, g, rfl, pl⟩ := isPlan_ok (needPlan_yes hr)
      have l0 : ([] : List (Str × V)).length ≤ 0 := Nat.le_refl _
      refine hold (setFld T_Writer (by simp) rfl (s1 _ _ hp) (Nat.lt_of_le_of_lt l0 (by decide)) ev_c fun H3 s3 => ?_)
      refine hold (setFld T_Writer (by simp) rfl upd_same (Nat.lt_of_le_of_lt (lp l0) (by decide)) ev_c fun H4 s4 => ?_)
      refine hold (setFld T_Writer (by simp) rfl upd_same (Nat.lt_of_le_of_lt (lp (lp l0)) (by decide)) (ev_var rfl) fun H5 s5 => ?_)
      refine hold (setFldO (K := K) (ds := []) T_Writer (by simp) rfl upd_same (Nat.lt_of_le_of_lt (lp (lp (lp l0))) (by decide)) (evo_lst eds_nil (by show 0 ≤ 100000; omega)) fun l vl H6 nl s6 e6 d6 => ?_)
      cases d6
      refine hold (setFldL T_Writer (by simp) rfl upd_same (Nat.lt_of_le_of_lt (lp (lp (lp (lp l0)))) (by decide)) ev_c fun H7 s7 => ?_)
      rw [wr_new]
      have kp : ∀ {A B : Hp} {o : HO}, Same A B → Keep [p] A (upd B p o) := fun s => (Same.keep s).trans (keep_upd (by simp))
      have k5 := ((kp (o := .ins (wrC K) dx (putF "_taken" (.int 0) [])) (s1.trans s3)).trans (kp (o := .ins (wrC K) dx (putF "_stretch" (.ref (He.ga K "WHOLE")) (putF "_taken" (.int 0) []))) s4)).trans (kp (o := .ins (wrC K) dx (putF "_plan" v (putF "_stretch" (.ref (He.ga K "WHOLE")) (putF "_taken" (.int 0) [])))) s5)
      have hlp : l ≠ p := fun z => by
        rw [z, upd_same] at nl
        cases nl
      have hl0 : H l = none := keep_free k5 (fun y hy => by rw [List.mem_singleton.mp hy]; exact ⟨_, upd_same⟩) nl
      have e7 : upd H6 p (.ins (wrC K) dx (putF "_figures" (.ref l) (putF "_plan" v (putF "_stretch" (.ref (He.ga K "WHOLE")) (putF "_taken" (.int 0) []))))) l = some (.lst []) := by
        rw [upd_ne hlp]
        exact e6
      have e8 : upd H7 p (.ins (wrC K) dx (wrF 0 (.ref (He.ga K "WHOLE")) v l false)) l = some (.lst []) := by
        rw [upd_ne hlp]
        exact s7 _ _ e7
      have kAll : Keep [p] H (upd H7 p (.ins (wrC K) dx (wrF 0 (.ref (He.ga K "WHOLE")) v l false))) := (k5.trans (kp (o := .ins (wrC K) dx (putF "_figures" (.ref l) (putF "_plan" v (putF "_stretch" (.ref (He.ga K "WHOLE")) (putF "_taken" (.int 0) []))))) s6)).trans (kp s7)
      exact kQ cs g rfl pl l _ hl0 kAll ⟨⟨dx, _, v, upd_same, hW _, dp_ins kAll hp hd⟩, e8⟩
    · obtain ⟨rfl, hw⟩ := needPlan_no he
      exact kP hw H1 s1
abbrev s_Writer_take : Stmt := inClass (topS 40) 1
theorem sc_Writer_take : FnScope ["self", "signs", "sign"] ["self", "signs"] (defScope s_Writer_take) := ⟨rfl, rfl, rfl, by decide +kernel, rfl, by decide +kernel, by decide +kernel⟩

def sp_wtake (K : PySem.W.Frag) : Sp := fun vs H Q E => ∃ (p l : Addr) (cs ss fs : List Int) (g : Int) (e : Bool) (u : V) (x : PyData), vs = [.ref p, u] ∧ WrG K (wrC K) H p l cs g ss fs e ∧ Plan cs g ∧ Text cs.length ss ∧ Dp K H u x ∧
  (e = true → ∀ H', Same H H' → E (.ref (errC K .ended)) none H') ∧
  (e = false → (∀ xs : List Int, x = .list (xs.map PyData.int) → Text cs.length (ss ++ xs) → ∀ y r H', H y = none → H r = none → y ≠ r → Keep [p] H H' → H' r = some (.lst (((sureOf (textS cs g (ss ++ xs))).drop fs.length).map V.int)) → WrG K (wrC K) H' p y cs g (ss ++ xs) (sureOf (textS cs g (ss ++ xs))) false → Q (.ref r) H') ∧
    ((∀ xs : List Int, x = .list (xs.map PyData.int) → Text cs.length (ss ++ xs) → False) → ∀ H', Same H H' → E (.ref (errC K .sign)) none H'))
theorem signs_case {d x : PyData} {cs : List Int} {g : Int} (pl : Plan cs g) (h : d = planD cs g) : (∀ r, needSignsF [d, x] = .ok r → ∃ xs : List Int, x = .list (xs.map PyData.int) ∧ Text cs.length xs) ∧ ∀ e, needSignsF [d, x] = .error e → e = .sign ∧ isWholeList x 60 0 ((cs.length : Int) - 1) = false := by
  subst h
  cases hw : isWholeList x 60 0 ((cs.length : Int) - 1) with
  | true =>
    rw [signs_yes pl hw]
    exact ⟨fun _ _ => isText_ok hw, fun _ z => nomatch z⟩
  | false =>
    rw [signs_no pl hw]
    exact ⟨(fun _ z => nomatch z), fun e z => by cases z; exact ⟨rfl, rfl⟩⟩
theorem ok_wtake (F : FnM K "take" "Writer.take" s_Writer_take f fd) (T_Writer : ClsT K (wrC K) wrN) (c_Writer__refuse_ended : MCal P w K mg base (L2N.CX P w) (wrC K) 1 "_refuse_ended" ["self"] (sp_refuse_ended K)) (c_Writer__tell : MCal P w K mg base CX0 (wrC K) 1 "_tell" ["self", "figures"] (sp_wtell K))
    (c_need_signs : Cal P w K mg base (L2N.CX P w) 4 "need_signs" ["plan", "signs"] (sp_need_signs K)) (c_stepped : Cal P w K mg base CX0 6 "stepped" ["stretch", "plan", "sign"] (sp_stepped K)) (c_figures_around : Cal P w K mg base CX0 2 "figures_around" ["stretch"] (sp_figures_around K))
    (x_BadSign : Exn K mg .sign) (z_len : mg "len" = none) {u4 : Tok} (g_LONGEST_TEXT : mg "LONGEST_TEXT" = some (.int 60 u4)) : FnOk P w K mg base (L2N.CX P w) 7 f fd ["self", "signs"] (sp_wtake K) := by
  refine F.ok sc_Writer_take (fun vs H Q E h => ?_) (fun cdv A outer s H vs Q E hr h => ?_)
  · obtain ⟨_, _, _, _, _, _, _, _, _, rfl, _⟩ := h
    rfl
  · obtain ⟨p, l, cs, ss, fs, g, e, u, x, rfl, R, pl, tx, hx, kEnd, kF⟩ := h
    refine ⟨_, (pss_hold (ps_expr (pe_mX0 T_Writer.cl c_Writer__refuse_ended (hr.mono (by decide)) (fun σ => L2N.passAt (L2N.takes_of rfl rfl rfl rfl) σ) (pv 0)))
      (pss_hold (ps_expr (pe_fX c_need_signs (hr.mono (by decide)) (L2N.takes_of rfl rfl rfl rfl) (pa_cons (pe_fld (pv 0) rfl) (pa_cons (pv 1) pa_nil))))
      (pss_hold (ps_if (pt_cmpR op_gt (pe_op op_add (pe_fld (pv 0) rfl) (pe_callB (lenK (K := K) rfl) (by rfl) z_len (by decide +kernel) (pa_cons (pv 1) pa_nil))) (pe_glob (v := .int 60) rfl g_LONGEST_TEXT ⟨_, rfl⟩) (nomark _)) (pss_one (L2N.ps_raise rfl (L2N.takes_of rfl rfl rfl rfl) (L2N.pmk_own PySem.F.excBase_ValueError x_BadSign.x x_BadSign.g x_BadSign.k (raises_own x_BadSign.b x_BadSign.t) rfl))) pss_nil)
      (pss_hold (ps_fldaug (pv 0) (pe_callB (lenK (K := K) rfl) (by rfl) z_len (by decide +kernel) (pa_cons (pv 1) pa_nil)) in_add)
      (pss_hold (ps_for (passes_of rfl) rfl (pi_listK (K := K) rfl (pv 1)) (pg_name (i := 2) sc_Writer_take.nd rfl (.inl rfl)) (pss_one (ps_asg (pe_f c_stepped (hr.mono (by decide)) (pa_cons (pe_fld (pv 0) rfl) (pa_cons (pe_fld (pv 0) rfl) (pa_cons (pv 2) pa_nil)))) (pg_tupK (K := K) (n := 2) rfl rfl (pgs_cons (pg_fld (K := K) rfl (pv 0)) (pgs_cons (pg_fld (K := K) rfl (pv 0)) pgs_nil))))))
      (pss_one (ps_ret (pe_mX T_Writer.cl c_Writer__tell (hr.mono (by decide)) (fun σ => pass0At σ) (pv 0) (pa_cons (pe_f c_figures_around (hr.mono (by decide)) (pa_cons (pe_fld (pv 0) rfl) pa_nil)) pa_nil))))))))), ?_⟩
    obtain ⟨dx, S, PL, eP, _⟩ := R.at_
    refine ⟨_, rfl, p, dx, _, rfl, eP, wr_no (by decide +kernel), p, l, cs, ss, fs, g, e, rfl, R, fun ee H1 s1 => ?_, fun ee H1 s1 => kEnd ee H1 s1⟩
    subst ee
    obtain ⟨kQ, kE⟩ := kF rfl
    clear kF kEnd
    have R1 := R.same s1
    clear eP
    obtain ⟨dx, S, PL, eP, d1, d2⟩ := R1.at_
    have hx1 := dp_same s1 _ _ hx
    have sgs : Signs cs.length ss := fun y hy => by have := tx.2 y hy; omega
    obtain ⟨pa, la⟩ := after_ok pl sgs
    obtain ⟨cOk, cNo⟩ := signs_case (x := x) pa rfl
    refine hold (dropX (eds_cons ((ev_fld T_Writer (by simp) rfl eP wr_plan).dat fun J sJ => dp_same sJ _ _ d2) (eds_cons (evd_var rfl hx1) eds_nil)) rfl (fun r H2 hr s2 => ?_) (fun e H2 he s2 => ?_))
    · obtain ⟨xs, rfl, txx⟩ := cOk r hr
      rw [la] at txx
      have hxm : (xs.map PyData.int).length = xs.length := List.length_map ..
      have s12 := s1.trans s2
      have eP2 := s2 _ _ eP
      have hx2 := dp_same s2 _ _ hx1
      refine hold (ifB (b := decide ((ss.length : Int) + (xs.length : Int) > 60)) (evb_test (ev_op0 (g := fun i j => V.bl (decide (i > j))) (ev_op0 (g := fun i j => V.int (i + j)) (ev_fld T_Writer (by simp) rfl eP2 wr_taken) (EvV.is (ev_lenL (evd_var rfl hx2)) (by rw [hxm]))) ev_c)) (fun c H3 s3 => ?_) (fun c H3 s3 => ?_))
      · have hgt := of_decide_eq_true c
        refine kE (fun xs' e' t' => ?_) H3 (s12.trans s3)
        have e2 : xs = xs' := by
          have := congrArg (fun d => itemsOf d) e'
          simp only [itemsOf, toI_map] at this
          exact this
        subst e2
        have := t'.1
        rw [List.length_append] at this
        omega
      · have hle := of_decide_eq_false c
        have hx3 := dp_same s3 _ _ hx2
        have e3 := s3 _ _ eP2
        refine hold (augFld T_Writer (by simp) rfl e3 wr_len wr_taken (EvV.is (ev_lenL (evd_var rfl hx3)) (by rw [hxm])) fun H4 s4 => ?_)
        rw [wr_ptaken]
        have k4 : Keep [p] H4 (upd H4 p (.ins (wrC K) dx (wrF ((ss.length : Int) + (xs.length : Int)) S PL l false))) := keep_upd (by simp)
        have e4 := s4 _ _ e3
        have s24 := (s2.trans s3).trans s4
        have dS4 := dp_ins k4 e4 (dp_same s24 _ _ d1)
        have dP4 := dp_ins k4 e4 (dp_same s24 _ _ d2)
        have hx4 := dp_ins k4 e4 (dp_same s4 _ _ hx3)
        have lp := R.ne
        have fg4 := k4 l _ (by simp [lp]) (s24 _ _ R1.fg)
        have ep4 : upd H4 p (.ins (wrC K) dx (wrF ((ss.length : Int) + (xs.length : Int)) S PL l false)) p = some (.ins (wrC K) dx (wrF ((ss.length : Int) + (xs.length : Int)) S PL l false)) := upd_same
        have kk4 : Keep [p] H (upd H4 p (.ins (wrC K) dx (wrF ((ss.length : Int) + (xs.length : Int)) S PL l false))) := (Same.keep (s1.trans s24)).trans k4
        generalize upd H4 p (.ins (wrC K) dx (wrF ((ss.length : Int) + (xs.length : Int)) S PL l false)) = G at dS4 dP4 hx4 fg4 ep4 kk4
        have txA : Text cs.length (ss ++ xs) := ⟨by rw [List.length_append]; omega, fun y hy => by
          rcases List.mem_append.mp hy with hy | hy
          · exact tx.2 y hy
          · exact txx.2 y hy⟩
        refine hold (forLI (ns := xs) (evd_var rfl hx4) fun q H5 s5 hq => ⟨fun i σ' J => ∃ y, σ' = [some (.ref p), some u, y] ∧ Keep [p] G J ∧ SqL K J q (xs.map V.int) ∧ ∃ S P, J p = some (.ins (wrC K) dx (wrF ((ss.length : Int) + (xs.length : Int)) S P l false)) ∧ Dp K J S (textS cs g (ss ++ xs.take i)).d ∧ Dp K J P (planD (after cs g (ss ++ xs.take i)) g),
          ⟨_, rfl, Same.keep s5, hq, S, PL, s5 _ _ ep4, by rw [List.take_zero, List.append_nil]; exact dp_same s5 _ _ dS4, by rw [List.take_zero, List.append_nil]; exact dp_same s5 _ _ dP4⟩, fun i σ' J ⟨_, _, _, h, _⟩ => h, ?_, ?_⟩)
        · rintro i n σ' J hi ⟨y, rfl, kJ, hJ, S', P', eJ, dS, dP⟩
          have til : ss ++ xs.take i ++ [n] = ss ++ xs.take (i + 1) := by rw [take_snoc hi, List.append_assoc]
          have hm : n ∈ xs := List.mem_of_getElem? hi
          have nb := txx.2 n hm
          have txI : Text cs.length (ss ++ xs.take i) := ⟨by rw [List.length_append, List.length_take]; omega, fun y hy => txA.2 y (by
            rcases List.mem_append.mp hy with hy | hy
            · exact List.mem_append_left _ hy
            · exact List.mem_append_right _ (List.mem_of_mem_take hy))⟩
          have sgI : Signs cs.length (ss ++ xs.take i) := fun y hy => by have := txI.2 y hy; omega
          obtain ⟨pI, lI⟩ := after_ok pl sgI
          refine lastT (unp2F T_Writer (by simp) (by simp) rfl eJ (fun v => ⟨wr_len, by rw [wr_pstretch]; exact wr_len⟩) (evd_stepped ((ev_fld T_Writer (by simp) rfl eJ wr_stretch).dat fun J sJ => dp_same sJ _ _ dS) ((ev_fld T_Writer (by simp) rfl eJ wr_plan).dat fun J sJ => dp_same sJ _ _ dP) (ev_var rfl) (textS_ok pl txI) (by omega) pI nb.1 (by omega)) fun v1 v2 J1 q1 b1 b2 => ?_)
          rw [upd_upd, wr_pstretch, wr_pplan]
          have k1 : Keep [p] J1 (upd J1 p (.ins (wrC K) dx (wrF ((ss.length : Int) + (xs.length : Int)) v1 v2 l false))) := keep_upd (by simp)
          have eJ1 := q1 _ _ eJ
          have c1 := dp_ins k1 eJ1 b1
          have c2 := dp_ins k1 eJ1 b2
          have eA := after_snoc cs g (ss ++ xs.take i) n
          have eT := strOf_snoc g n (ss ++ xs.take i) whole3 cs
          change textS cs g (ss ++ xs.take i ++ [n]) = (textS cs g (ss ++ xs.take i)).by _ _ _ at eT
          rw [← eT, til] at c1
          rw [← eA, til] at c2
          exact ⟨_, rfl, (kJ.trans (Same.keep q1)).trans k1, sql_keep k1 (fun y hy => by rw [List.mem_singleton.mp hy]; exact ⟨_, _, _, eJ1⟩) (q1.seq hJ), v1, v2, upd_same, c1, c2⟩
        · rintro σ' J ⟨y, rfl, kJ, hJ, S', P', eJ, dS, dP⟩
          rw [List.take_length] at dS dP
          have fgJ := kJ l _ (by simp [lp]) fg4
          have RJ : WrG K (wrC K) J p l cs g (ss ++ xs) fs false := ⟨⟨dx, S', P', by rw [eJ, List.length_append, Int.natCast_add], dS, dP⟩, fgJ⟩
          have kkJ := kk4.trans kJ
          have st : ∀ y ∈ [p], ∃ o, J y = some o := fun y hy => by rw [List.mem_singleton.mp hy]; exact ⟨_, eJ⟩
          refine hold ⟨_, rfl, p, dx, _, rfl, eJ, wr_no (by decide +kernel), (evo_figures_around ((ev_fld T_Writer (by simp) rfl eJ wr_stretch).dat fun J sJ => dp_same sJ _ _ dS) (textS_ok pl txA) (by omega) (by omega)).run fun z vz J1 nz q1 ez dz => ?_⟩
          rw [dpa_ints_eq dz] at ez
          refine ⟨p, l, z, cs, ss ++ xs, fs, sureOf (textS cs g (ss ++ xs)), g, false, rfl, RJ.same q1, ez, fun r J2 nr k2 er R2 => ?_⟩
          have zr : z ≠ r := fun h => by
            rw [← h, ez] at nr
            cases nr
          exact kQ xs rfl txA z r J2 (keep_free kkJ st nz) (keep_free kkJ st (q1.free nr)) zr ((kkJ.trans (Same.keep q1)).trans k2) er R2
    · obtain ⟨rfl, hw⟩ := cNo e he
      refine kE (fun xs e t => ?_) H2 (s1.trans s2)
      subst e
      rw [la, isText_of ⟨by have := t.1; rw [List.length_append] at this; omega, fun y hy => t.2 y (List.mem_append_right _ hy)⟩] at hw
      cases hw
end

section
variable {P : Program} {w : World} {K : PySem.W.Frag} {mg : Str → Option Value} {base : Heap} {f : Addr} {fd : FuncData}
theorem rtakeOk {E : L2.St → XK} {te ta : TE} {σ : L2.St} {H : Hp} {p l : Addr} {cs as fs : List Int} {g : Int} {m : Nat} {Q : VK} (h : EvV te σ H (.ref p)) (ha : EvD K ta σ H (.list (fs.map PyData.int))) (R : RdAt K (rdC K) H p l cs g m as) (O : RdO cs g m as)
    (hb : Bits fs) (hl : as.length + fs.length ≤ 4000) (k : ∀ r H', H r = none → Keep [p, l] H H' → H' r = some (.lst (((sgn cs g m (as ++ fs)).drop (sgn cs g m as).length).map V.int)) → RdAt K (rdC K) H' p l cs g m (as ++ fs) → Q (.ref r) H') : tMX (rdC K) "take" (sp_rtake K) E te (tCons ta tNil) σ H Q :=
  h H _ (Same.refl _) fun H1 s1 => by
    obtain ⟨dx, S, PL, I, e, _⟩ := (R.same s1).at_
    refine ⟨p, dx, _, rfl, e, rd_no (by decide +kernel), ?_⟩
    refine ha H1 _ s1 fun u H2 s2 d2 => ⟨p, l, cs, as, g, m, u, _, rfl, R.same (s1.trans s2), O, d2, fun fs' ex hb' hl' r H3 nr k3 e3 R3 => ?_, fun hno => (hno fs rfl hb hl).elim⟩
    have e2 : fs = fs' := by
      have := congrArg (fun d => itemsOf d) ex
      simp only [itemsOf, toI_map] at this
      exact this
    subst e2
    exact k r H3 ((s1.trans s2).free nr) ((Same.keep (s1.trans s2)).trans k3) e3 R3
theorem rmakeOk {E : L2.St → XK} {ta tb : TE} {σ : L2.St} {H : Hp} {cs : List Int} {g : Int} {m : Nat} {Q : VK} (h : EvD K ta σ H (planD cs g)) (h2 : EvV tb σ H (.int (m : Int))) (pl : Plan cs g) (hm : m ≤ 60)
    (k : ∀ p l H', H p = none → H l = none → Same H H' → RdAt K (rdC K) H' p l cs g m [] → Q (.ref p) H') : tMkX (rdC K) (sp_rinit K) E (tCons ta (tCons tb tNil)) σ H Q :=
  h H _ (Same.refl _) fun v H1 s1 d1 => h2 H1 _ s1 fun H2 s2 p dx np ndx hne => by
    have s3 : Same H2 (upd (upd H2 dx (.own p)) p (.ins (rdC K) dx [])) := same_new (same_upd ndx) (by rw [upd_ne hne.symm]; exact np)
    refine ⟨p, dx, v, .int (m : Int), _, _, rfl, upd_same, dp_same (s2.trans s3) _ _ d1, .int _, fun z => ?_, fun _ z => ?_, fun cs' g' m' e1 pl' e2 hm' l H3 nl k3 R => ⟨rfl, ?_⟩⟩
    · rw [isPlan_of pl] at z
      cases z
    · rw [isWhole_int, decide_eq_true (by omega), decide_eq_true (by omega)] at z
      cases z
    · have ec : cs = cs' := by
        have := congrArg countsOf e1
        rw [counts_planD, counts_planD] at this
        exact this
      have eg : g = g' := by
        have := congrArg gainOf e1
        rw [gain_planD, gain_planD] at this
        exact this
      have em : m = m' := by
        have := PyData.int.inj e2
        omega
      subst ec eg em
      have nl2 : H2 l = none := by
        cases e : H2 l with
        | none => rfl
        | some o =>
          rw [s3 _ _ e] at nl
          cases nl
      exact k p l H3 ((s1.trans s2).free np) ((s1.trans s2).free nl2) ((s1.trans s2).trans (k3.over s3 (by simp [np]))) R
theorem wmakeOk {E : L2.St → XK} {ta : TE} {σ : L2.St} {H : Hp} {cs : List Int} {g : Int} {Q : VK} (h : EvD K ta σ H (planD cs g)) (pl : Plan cs g)
    (k : ∀ p l H', H p = none → H l = none → Same H H' → WrG K (wrC K) H' p l cs g [] [] false → Q (.ref p) H') : tMkX (wrC K) (sp_winit K) E (tCons ta tNil) σ H Q :=
  h H _ (Same.refl _) fun v H1 s1 d1 p dx np ndx hne => by
    have s3 : Same H1 (upd (upd H1 dx (.own p)) p (.ins (wrC K) dx [])) := same_new (same_upd ndx) (by rw [upd_ne hne.symm]; exact np)
    refine ⟨p, dx, v, _, rfl, upd_same, dp_same s3 _ _ d1, fun z => ?_, fun cs' g' e1 pl' l H3 nl k3 R => ⟨rfl, ?_⟩⟩
    · rw [isPlan_of pl] at z
      cases z
    · have ec : cs = cs' := by
        have := congrArg countsOf e1
        rw [counts_planD, counts_planD] at this
        exact this
      have eg : g = g' := by
        have := congrArg gainOf e1
        rw [gain_planD, gain_planD] at this
        exact this
      subst ec eg
      exact k p l H3 (s1.free np) (s1.free (s3.free nl)) (s1.trans (k3.over s3 (by simp [np]))) R
theorem wendRun {E : L2.St → XK} {te : TE} {σ : L2.St} {H : Hp} {p l : Addr} {cs ss fs : List Int} {g : Int} {e : Bool} {Q : VK} (h : EvV te σ H (.ref p)) (R : WrG K (wrC K) H p l cs g ss fs e) (pl : Plan cs g) (tx : Text cs.length ss)
    (kE : e = true → ∀ H', Same H H' → E σ (.ref (errC K .ended)) none H')
    (kQ : e = false → ∀ x r H', H x = none → H r = none → x ≠ r → Keep [p] H H' → H' r = some (.lst (((figsIn (textS cs g ss)).drop fs.length).map V.int)) → WrG K (wrC K) H' p x cs g ss (figsIn (textS cs g ss)) true → Q (.ref r) H') : tMX (wrC K) "end" (sp_wend K) E te tNil σ H Q :=
  h H _ (Same.refl _) fun H1 s1 => by
    obtain ⟨dx, S, PL, eP, _⟩ := (R.same s1).at_
    exact ⟨p, dx, _, rfl, eP, wr_no (by decide +kernel), p, l, cs, ss, fs, g, e, rfl, R.same s1, pl, tx, fun z H2 s2 => kE z H2 (s1.trans s2), fun z x r H2 nx nr xr k2 er R2 => kQ z x r H2 (s1.free nx) (s1.free nr) xr ((Same.keep s1).trans k2) er R2⟩
theorem wtakeOk {E : L2.St → XK} {te ta : TE} {σ : L2.St} {H : Hp} {p l : Addr} {cs ss fs xs : List Int} {g : Int} {Q : VK} (h : EvV te σ H (.ref p)) (ha : EvD K ta σ H (.list (xs.map PyData.int))) (R : WrG K (wrC K) H p l cs g ss fs false) (pl : Plan cs g) (tx : Text cs.length (ss ++ xs))
    (k : ∀ y r H', H y = none → H r = none → y ≠ r → Keep [p] H H' → H' r = some (.lst (((sureOf (textS cs g (ss ++ xs))).drop fs.length).map V.int)) → WrG K (wrC K) H' p y cs g (ss ++ xs) (sureOf (textS cs g (ss ++ xs))) false → Q (.ref r) H') : tMX (wrC K) "take" (sp_wtake K) E te (tCons ta tNil) σ H Q :=
  h H _ (Same.refl _) fun H1 s1 => by
    obtain ⟨dx, S, PL, eP, _⟩ := (R.same s1).at_
    refine ⟨p, dx, _, rfl, eP, wr_no (by decide +kernel), ?_⟩
    refine ha H1 _ s1 fun u H2 s2 d2 => ⟨p, l, cs, ss, fs, g, false, u, _, rfl, R.same (s1.trans s2), pl, ⟨by have := tx.1; rw [List.length_append] at this; omega, fun y hy => tx.2 y (List.mem_append_left _ hy)⟩, d2, (fun z => nomatch z), fun _ => ⟨fun xs' ex t y r H3 ny nr yr k3 er R3 => ?_, fun hno => (hno xs rfl tx).elim⟩⟩
    have e2 : xs = xs' := by
      have := congrArg (fun d => itemsOf d) ex
      simp only [itemsOf, toI_map] at this
      exact this
    subst e2
    have s12 := s1.trans s2
    exact k y r H3 (s12.free ny) (s12.free nr) yr ((Same.keep s12).trans k3) er R3
theorem catTL {ta tb : TE} {σ : L2.St} {H : Hp} {Q : VK} (h : ta σ H fun x H1 => tb σ H1 fun y H2 => rCatL K x y H2 Q) : tOp (rCatL K) ta tb σ H Q := h
theorem sure_more9 {cs as zs : List Int} {g : Int} (pl : Plan cs g) (tx : Text cs.length (as ++ zs)) : sureOf (textS cs g as) ++ (sureOf (textS cs g (as ++ zs))).drop (sureOf (textS cs g as)).length = sureOf (textS cs g (as ++ zs)) := by
  have ta : Text cs.length as := ⟨by have := tx.1; rw [List.length_append] at this; omega, fun y hy => tx.2 y (List.mem_append_left _ hy)⟩
  obtain ⟨pa, la⟩ := after_ok pl ta.signs
  have w : withinB (textS cs g (as ++ zs)) (textS cs g as) = true := by
    have e : textS cs g (as ++ zs) = strOf (textS cs g as) (after cs g as) g zs := str_app ..
    rw [e]
    exact str_within (textS_good pl ta) pa (fun y hy => by rw [la]; exact tx.signs y (List.mem_append_right _ hy))
  obtain ⟨r, e⟩ := sure_grows (textS_good pl ta) (textS_good pl tx) w
  rw [e, List.drop_left']
  rfl
theorem ev_mixed8 {ta tb : TE} {σ : L2.St} {H : Hp} {c k : Int} (h : EvV ta σ H (.int c)) (h2 : EvV tb σ H (.int k)) (h0 : 0 ≤ k) (h1 : k < 5000) : EvV (tCall sp_mixed [] E0 (tCons ta (tCons tb tNil))) σ H (.int (mixed c k)) := fun H1 Q s1 q =>
  h H1 _ s1 fun H2 s2 => h2 H2 _ (s1.trans s2) fun H3 s3 => ⟨c, k, rfl, h0, h1, q H3 (s2.trans s3)⟩
end

section
variable {P : Program} {w : World} {K : PySem.W.Frag} {mg : Str → Option Value} {base : Heap} {f : Addr} {fd : FuncData}
abbrev s__law_passed : Stmt := topS 54
theorem sc__law_passed : FnScope ["_law_reader", "_law_waiting", "_law_told", "_law_size"] ["_law_reader", "_law_waiting", "_law_told", "_law_size"] (defScope s__law_passed) := ⟨rfl, rfl, rfl, by decide +kernel, rfl, by decide +kernel, by decide +kernel⟩

def sp_passed (K : PySem.W.Frag) : Sp := fun vs H Q _ => ∃ (p l q t : Addr) (c : Int) (cs as ws ts : List Int) (g : Int) (m : Nat), vs = [.ref p, .ref q, .ref t, .int c] ∧ RdAt K (rdC K) H p l cs g m as ∧ RdO cs g m as ∧ Bits ws ∧ as.length + ws.length ≤ 4000 ∧ H q = some (.lst (ws.map V.int)) ∧ H t = some (.lst (ts.map V.int)) ∧ ts.length ≤ 60 ∧ 0 ≤ c ∧ q ≠ l ∧ q ≠ t ∧ t ≠ l ∧
  ∀ r H', H r = none → Keep [p, l, t] H H' → RdAt K (rdC K) H' p l cs g m (as ++ ws.take c.toNat) → H' t = some (.lst ((ts ++ (sgn cs g m (as ++ ws.take c.toNat)).drop (sgn cs g m as).length).map V.int)) → H' r = some (.lst ((ws.drop c.toNat).map V.int)) → Q (.ref r) H'
theorem ok_passed (F : FnP K "_law_passed" s__law_passed f fd) (T_Reader : ClsT K (rdC K) rdN) (c_Reader_take : MCal P w K mg base (L2N.CX P w) (rdC K) 8 "take" ["self", "figures"] (sp_rtake K)) : FnOk P w K mg base CX0 9 f fd ["_law_reader", "_law_waiting", "_law_told", "_law_size"] (sp_passed K) := by
  refine F.ok sc__law_passed (fun vs H Q E h => ?_) (fun cdv A outer s H vs Q E hr h => ?_)
  · obtain ⟨_, _, _, _, _, _, _, _, _, _, _, rfl, _⟩ := h
    rfl
  · obtain ⟨p, l, q, t, c, cs, as, ws, ts, g, m, rfl, R, O, wb, wl, hq, ht, tl, c0, nql, nqt, ntl, k⟩ := h
    refine ⟨_, PSs.nox (pss_hold (ps_expr (pe_bm PySem.F.plainAttrs_list PySem.F.slot_list_extend PySem.F.type_list_extend mt_extend (pv 2) (pa_cons (pe_mX T_Reader.cl c_Reader_take (hr.mono (by decide)) (fun σ => passNAt σ) (pv 0) (pa_cons (pe_slice (sl_listK (K := K) rfl) (pv 1) po_none (po_some (pv 3))) pa_nil)) pa_nil)))
      (pss_one (ps_ret (pe_slice (sl_listK (K := K) rfl) (pv 1) (po_some (pv 3)) po_none)))), ?_⟩
    have isP : ∀ {J : Hp} {x : Addr} {as : List Int} {xs : List V}, RdAt K (rdC K) J p l cs g m as → J x = some (.lst xs) → x ≠ p := fun R h z => by
      obtain ⟨dx, S, PL, I, eP, _⟩ := R.at_
      rw [z, eP] at h
      cases h
    have nqp := isP R hq
    have ntp := isP R ht
    have tb : Bits (ws.take c.toNat) := fun x hx => wb x (List.mem_of_mem_take hx)
    have tk : (ws.take c.toNat).length ≤ ws.length := by rw [List.length_take]; omega
    refine ⟨_, rfl, .inl ⟨rfl, _, .inl (.inl ht)⟩, ?_⟩
    refine rtakeOk (ev_var rfl) (EvK.dat (EvO.k (EvO.is (evo_takeL2 (evd_var rfl (dp_list hq)) (ev_var rfl) c0) List.map_take.symm))) R O tb (by omega) fun r1 H1 nr1 k1 er1 R1 => ?_
    have ht1 := k1 t _ (by simp [ntp, ntl]) ht
    have hq1 := k1 q _ (by simp [nqp, nql]) hq
    have hs := (sgn_signs O.pl m (as ++ ws.take c.toNat)).1
    refine ⟨t, r1, _, _, rfl, rfl, ht1, er1, ?_, ?_⟩
    · rw [List.length_map, List.length_map, List.length_drop]
      have := O.m60
      exact Nat.le_trans (m := 120) (by omega) (by decide)
    have k2 : Keep [t] H1 (upd H1 t (.lst (ts.map V.int ++ ((sgn cs g m (as ++ ws.take c.toNat)).drop (sgn cs g m as).length).map V.int))) := keep_upd (by simp)
    have et : upd H1 t (.lst (ts.map V.int ++ ((sgn cs g m (as ++ ws.take c.toNat)).drop (sgn cs g m as).length).map V.int)) t = some (.lst ((ts ++ (sgn cs g m (as ++ ws.take c.toNat)).drop (sgn cs g m as).length).map V.int)) := by
      rw [upd_same, List.map_append]
    have nt1 : NoTup [t] H1 := notup_of fun x hx => by rw [List.mem_singleton.mp hx]; exact ⟨_, ht1, nt_lst _⟩
    have R2 := R1.keep k2 (by simp [Ne.symm ntp]) (by simp [Ne.symm ntl]) nt1
    have hq2 := k2 q _ (by simp [nqt]) hq1
    have kk : Keep [p, l, t] H (upd H1 t (.lst (ts.map V.int ++ ((sgn cs g m (as ++ ws.take c.toNat)).drop (sgn cs g m as).length).map V.int))) := (k1.mono (by simp)).trans (k2.mono (by simp))
    generalize upd H1 t (.lst (ts.map V.int ++ ((sgn cs g m (as ++ ws.take c.toNat)).drop (sgn cs g m as).length).map V.int)) = G at et R2 hq2 kk
    refine hold (retO (ds := (ws.drop c.toNat).map PyData.int) (EvO.is (evo_dropL2 (evd_var rfl (dp_list hq2)) (ev_var rfl) c0) List.map_drop.symm) fun r vs H2 nr s2 e2 d2 => ?_)
    rw [dpa_ints_eq d2] at e2
    obtain ⟨dx, S, PL, I, eP, _⟩ := R2.at_
    exact k r H2 (keep_free kk (fun y hy => by
      simp only [List.mem_cons, List.not_mem_nil, or_false] at hy
      rcases hy with rfl | rfl | rfl
      · exact ⟨_, eP⟩
      · exact ⟨_, R2.sg⟩
      · exact ⟨_, et⟩) nr) (kk.trans (Same.keep s2)) (R2.same s2) (s2 _ _ et) e2
/-- of figures that begin the figures told: the signs certain so far begin the signs taken -/
theorem sgn_within10 {cs ss as ws : List Int} {g : Int} {m : Nat} (pl : Plan cs g) (tx : Text cs.length ss) (ha : Bits as) (hw : Bits ws) (e : as ++ ws = sureOf (textS cs g ss)) : ∃ r, ss = sgn cs g m as ++ r := by
  have gd := textS_good pl tx
  obtain ⟨sb, sw, _⟩ := sure_ok gd
  rw [← e] at sb sw
  have gA := figS_good ha
  have sg := (sgn_signs pl m as).2
  have w1 : withinB (textS cs g ss) (figS as) = true := within_trans gd (figS_good sb) gA sw (figs_prefix hw)
  have w2 : withinB (textS cs g ss) (textS cs g (sgn cs g m as)) = true := within_trans gd gA (str_good whole_good pl sg) w1 (sgn_within ha)
  exact text_begins whole_good pl sg tx.signs w2
theorem sgn_within11 {cs ss as ws : List Int} {g : Int} (pl : Plan cs g) (tx : Text cs.length ss) (ha : Bits as) (hw : Bits ws) (e : as ++ ws = figsIn (textS cs g ss)) : ∃ r, ss = sgn cs g ss.length as ++ r := by
  have hb : Bits (as ++ ws) := ha.both hw
  obtain ⟨r, er⟩ := certain_grows (g := g) (m := ss.length) (figS_good ha) (figS_good hb) whole_good pl (figs_prefix hw) (in_whole (figS_good ha))
  have back := sgn_back0 (m := ss.length) pl tx (Nat.le_refl _)
  rw [List.take_length, ← e] at back
  exact ⟨r, back.symm.trans er⟩
theorem sgn_grow10 {cs as zs : List Int} {g : Int} {m : Nat} (pl : Plan cs g) (ha : Bits as) (hz : Bits zs) : sgn cs g m as ++ (sgn cs g m (as ++ zs)).drop (sgn cs g m as).length = sgn cs g m (as ++ zs) := by
  obtain ⟨r, er⟩ := certain_grows (g := g) (m := m) (cs := cs) (figS_good ha) (figS_good (ha.both hz)) whole_good pl (figs_prefix hz) (in_whole (figS_good ha))
  have er : sgn cs g m (as ++ zs) = sgn cs g m as ++ r := er
  rw [er, List.drop_left']
  rfl
end

section
structure St10 (B : Hp) (p pr lr pT : Addr) : Prop where
  fr : ∀ x ∈ [p, pr, lr, pT], B x = none
  h1 : p ≠ pr
  h2 : p ≠ lr
  h3 : p ≠ pT
  h4 : pr ≠ pT
  h5 : lr ≠ pT
structure In10 (K : PySem.W.Frag) (B : Hp) (p pr lr pT : Addr) (cs : List Int) (g : Int) (n : Nat) (ss F as ws : List Int) (e : Bool) (l pW : Addr) (J : Hp) : Prop where
  sJ : Same B J
  wr : WrG K (wrC K) J p l cs g ss F e
  rd : RdAt K (rdC K) J pr lr cs g n as
  t : J pT = some (.lst ((sgn cs g n as).map V.int))
  w : J pW = some (.lst (ws.map V.int))
  nl : l ≠ pr ∧ l ≠ lr ∧ l ≠ pT
  nw : pW ≠ p ∧ pW ≠ pr ∧ pW ≠ lr ∧ pW ≠ pT
  eq : as ++ ws = F
  bf : Bits F
section
variable {K : PySem.W.Frag} {B J J2 : Hp} {p pr lr pT l pW y z r : Addr} {cs ss ss' F F' as ws ws' : List Int} {g : Int} {n c : Nat} {e e' : Bool}
theorem In10.same (I : In10 K B p pr lr pT cs g n ss F as ws e l pW J) (s : Same J J2) : In10 K B p pr lr pT cs g n ss F as ws e l pW J2 :=
  ⟨I.sJ.trans s, I.wr.same s, I.rd.same s, s _ _ I.t, s _ _ I.w, I.nl, I.nw, I.eq, I.bf⟩
theorem ne_of (h : J y = none) (h2 : ∃ o, J z = some o) : y ≠ z := fun q => by
  obtain ⟨o, e⟩ := h2
  rw [q, e] at h
  cases h
theorem In10.prs (I : In10 K B p pr lr pT cs g n ss F as ws e l pW J) : (∃ o, J p = some o) ∧ (∃ o, J pr = some o) ∧ (∃ o, J lr = some o) ∧ ∃ o, J pT = some o := by
  obtain ⟨dx, S, P, e1, _⟩ := I.wr.at_
  obtain ⟨dx2, S2, P2, I2, e2, _⟩ := I.rd.at_
  exact ⟨⟨_, e1⟩, ⟨_, e2⟩, ⟨_, I.rd.sg⟩, ⟨_, I.t⟩⟩
theorem In10.told (S : St10 B p pr lr pT) (I : In10 K B p pr lr pT cs g n ss F as ws e l pW J) (ny : J y = none) (k : Keep [p] J J2) (R : WrG K (wrC K) J2 p y cs g ss' F' e') (nz : J2 z = none) (he : as ++ ws' = F') (bf : Bits F') : In10 K B p pr lr pT cs g n ss' F' as ws' e' y z (upd J2 z (.lst (ws'.map V.int))) := by
  have su := same_upd nz (o := HO.lst (ws'.map V.int))
  obtain ⟨x1, x2, x3, x4⟩ := I.prs
  have rd2 := I.rd.keep k (by simp [S.h1.symm]) (by simp [S.h2.symm]) I.wr.nt
  have t2 := k pT _ (by simp [S.h3.symm]) I.t
  obtain ⟨dx, Z, P, e1, _⟩ := R.at_
  obtain ⟨dx2, S2, P2, I2, e2, _⟩ := rd2.at_
  exact ⟨(k.over I.sJ (fun x hx => by rw [List.mem_singleton.mp hx]; exact S.fr p (by simp))).trans su, R.same su, rd2.same su, su _ _ t2, upd_same, ⟨ne_of ny x2, ne_of ny x3, ne_of ny x4⟩, ⟨ne_of nz ⟨_, e1⟩, ne_of nz ⟨_, e2⟩, ne_of nz ⟨_, rd2.sg⟩, ne_of nz ⟨_, t2⟩⟩, he, bf⟩
theorem In10.pass (S : St10 B p pr lr pT) (I : In10 K B p pr lr pT cs g n ss F as ws e l pW J) (k : Keep [pr, lr, pT] J J2) (nr : J r = none) (R : RdAt K (rdC K) J2 pr lr cs g n (as ++ ws.take c)) (et : J2 pT = some (.lst ((sgn cs g n (as ++ ws.take c)).map V.int))) (er : J2 r = some (.lst ((ws.drop c).map V.int))) : In10 K B p pr lr pT cs g n ss F (as ++ ws.take c) (ws.drop c) e l r J2 := by
  obtain ⟨x1, x2, x3, x4⟩ := I.prs
  obtain ⟨dx2, S2, P2, I2, e2, _⟩ := I.rd.at_
  have nt : NoTup [pr, lr, pT] J := notup_of fun x hx => by
    simp only [List.mem_cons, List.not_mem_nil, or_false] at hx
    rcases hx with rfl | rfl | rfl
    · exact ⟨_, e2, nt_ins _ _ _⟩
    · exact ⟨_, I.rd.sg, nt_lst _⟩
    · exact ⟨_, I.t, nt_lst _⟩
  refine ⟨k.over I.sJ (fun x hx => S.fr x (List.mem_cons_of_mem _ hx)), I.wr.keep k (by simp [S.h1, S.h2, S.h3]) (by simp [I.nl.1, I.nl.2.1, I.nl.2.2]) nt, R, et, er, I.nl, ⟨ne_of nr x1, ne_of nr x2, ne_of nr x3, ne_of nr x4⟩, ?_, I.bf⟩
  rw [List.append_assoc, List.take_append_drop]
  exact I.eq
theorem In10.ba (I : In10 K B p pr lr pT cs g n ss F as ws e l pW J) : Bits as := fun x hx => I.bf x (by rw [← I.eq]; exact List.mem_append_left _ hx)
theorem In10.bw (I : In10 K B p pr lr pT cs g n ss F as ws e l pW J) : Bits ws := fun x hx => I.bf x (by rw [← I.eq]; exact List.mem_append_right _ hx)
end
theorem call4R {sp : Sp} {ta tb tc td : TE} {σ : L2.St} {H : Hp} {Q : VK} {x y z w : V} (ha : EvV ta σ H x) (hb : EvV tb σ H y) (hc : EvV tc σ H z) (hd : EvV td σ H w) (k : ∀ H1, Same H H1 → sp [x, y, z, w] H1 Q E0) : tCall sp [] E0 (tCons ta (tCons tb (tCons tc (tCons td tNil)))) σ H Q :=
  ha H _ (Same.refl H) fun H1 s1 => hb H1 _ s1 fun H2 s2 => hc H2 _ (s1.trans s2) fun H3 s3 => hd H3 _ ((s1.trans s2).trans s3) fun H4 s4 => k H4 (((s1.trans s2).trans s3).trans s4)
end
section
variable {P : Program} {w : World} {K : PySem.W.Frag} {mg : Str → Option Value} {base : Heap} {f fW : Addr} {fd fdW : FuncData}
theorem eqT {ta tb : TE} {σ : L2.St} {H : Hp} {Q : VK} (h : ta σ H fun x H1 => tb σ H1 fun y H2 => rEqD K x y H2 Q) : tOp (rEqD K) ta tb σ H Q := h
theorem lstT {ta : TA} {σ : L2.St} {H : Hp} {Q : VK} (h : ta σ H fun vs H1 => vs.length ≤ sizeLine ∧ ∀ p, H1 p = none → Q (.ref p) (upd H1 p (.lst vs))) : tLst ta σ H Q := h
theorem andT {ta tb : TE} {σ : L2.St} {H : Hp} {Q : VK} (h : ta σ H fun x H1 => ∃ c, x = .bl c ∧ if c = true then tb σ H1 Q else Q (.bl false) H1) : tAndV ta tb σ H Q := h
abbrev s_law : Stmt := topS 55
theorem sc_law : FnScope ["_law_script", "_law_plan_here", "_law_cell", "_law_signs_here", "_law_writer", "_law_reader", "_law_waiting", "_law_told", "_law_at", "_law_turn", "_law_more"] ["_law_script"] (defScope s_law) := ⟨rfl, rfl, rfl, by decide +kernel, rfl, by decide +kernel, by decide +kernel⟩

def sp_law (K : PySem.W.Frag) : Sp := fun vs H Q _ => ∃ (a : Addr) (ns : List Int), vs = [.ref a] ∧ SqL K H a (ns.map V.int) ∧ ∀ H', Q (.bl true) H'
theorem ok_law (F : FnP K "law" s_law f fd) (T_Reader : ClsT K (rdC K) rdN) (T_Writer : ClsT K (wrC K) wrN) (c__law_cell_at : Cal P w K mg base CX0 1 "_law_cell_at" ["_law_script", "_law_k"] (sp_cell_at K)) (c__law_plan : Cal P w K mg base CX0 2 "_law_plan" ["_law_cell"] (sp_plan K)) (c__law_signs : Cal P w K mg base CX0 2 "_law_signs" ["_law_cell", "_law_plan_here", "_law_most"] (sp_signs K))
    (c__law_mixed : Cal P w K mg base CX0 1 "_law_mixed" ["_law_cell", "_law_k"] sp_mixed) (c__law_passed : Cal P w K mg base CX0 9 "_law_passed" ["_law_reader", "_law_waiting", "_law_told", "_law_size"] (sp_passed K)) (c_pressed : Cal P w K mg base (L2N.CX P w) 8 "pressed" ["plan", "signs"] (sp_pressed K))
    (c_Writer___init__ : ICal P w K mg base (L2N.CX P w) (wrC K) 4 ["self", "plan"] (sp_winit K)) (g_Writer : mg "Writer" = some (.ref (He.ga K "Writer"))) (c_Writer_take : MCal P w K mg base (L2N.CX P w) (wrC K) 7 "take" ["self", "signs"] (sp_wtake K)) (c_Writer_end : MCal P w K mg base (L2N.CX P w) (wrC K) 3 "end" ["self"] (sp_wend K)) (c_Writer_told : MCal P w K mg base CX0 (wrC K) 1 "told" ["self"] (sp_wtold K))
    (c_Reader___init__ : ICal P w K mg base (L2N.CX P w) (rdC K) 4 ["self", "plan", "many"] (sp_rinit K)) (g_Reader : mg "Reader" = some (.ref (He.ga K "Reader"))) (c_Reader_take : MCal P w K mg base (L2N.CX P w) (rdC K) 8 "take" ["self", "figures"] (sp_rtake K)) (c_Reader_told : MCal P w K mg base CX0 (rdC K) 1 "told" ["self"] (sp_rtold K)) (c_Reader_lacking : MCal P w K mg base CX0 (rdC K) 1 "lacking" ["self"] (sp_lacking K))
    (z_len : mg "len" = none) (z_int : mg "int" = none) (z_list : mg "list" = none) : FnOk P w K mg base CX0 10 f fd ["_law_script"] (sp_law K) := by
  refine F.ok sc_law (fun vs H Q E h => ?_) (fun cdv A outer s H vs Q E hr h => ?_)
  · obtain ⟨_, _, rfl, _⟩ := h
    rfl
  · obtain ⟨a, ns, rfl, hs, q⟩ := h
    refine ⟨_, PSs.nox (pss_hold (ps_set (i := 1) sc_law.nd rfl (Or.inl rfl) (pe_f c__law_plan (hr.mono (by decide)) (pa_cons (pe_f c__law_cell_at (hr.mono (by decide)) (pa_cons (pv 0) (pa_cons pe_int pa_nil))) pa_nil)))
      (pss_hold (ps_set (i := 2) sc_law.nd rfl (Or.inl rfl) (pe_f c__law_cell_at (hr.mono (by decide)) (pa_cons (pv 0) (pa_cons pe_int pa_nil))))
      (pss_hold (ps_set (i := 3) sc_law.nd rfl (Or.inl rfl) (pe_f c__law_signs (hr.mono (by decide)) (pa_cons (pe_f c__law_cell_at (hr.mono (by decide)) (pa_cons (pv 0) (pa_cons pe_int pa_nil))) (pa_cons (pv 1) (pa_cons (pe_ix (ix_listK (K := K) rfl) (pe_lst (pa_cons pe_int (pa_cons pe_int pa_nil))) (pe_callTy call_int1 (by rfl) z_int (by decide +kernel) (pa_cons (pe_cmpR op_eq (pe_op op_mod (pv 2) pe_int) pe_int (nomark _)) pa_nil)) (fun _ _ => rfl)) pa_nil)))))
      (pss_hold (ps_set (i := 4) sc_law.nd rfl (Or.inl rfl) (pe_mkX c_Writer___init__ (hr.mono (by decide)) g_Writer (fun σ => passNAt σ) (pa_cons (pv 1) pa_nil)))
      (pss_hold (ps_set (i := 5) sc_law.nd rfl (Or.inl rfl) (pe_mkX c_Reader___init__ (hr.mono (by decide)) g_Reader (fun σ => passNAt σ) (pa_cons (pv 1) (pa_cons (pe_callB (lenK (K := K) rfl) (by rfl) z_len (by decide +kernel) (pa_cons (pv 3) pa_nil)) pa_nil))))
      (pss_hold (ps_set (i := 6) sc_law.nd rfl (Or.inl rfl) (pe_lst pa_nil))
      (pss_hold (ps_set (i := 7) sc_law.nd rfl (Or.inl rfl) (pe_lst pa_nil))
      (pss_hold (ps_set (i := 8) sc_law.nd rfl (Or.inl rfl) pe_int)
      (pss_hold (ps_set (i := 9) sc_law.nd rfl (Or.inl rfl) pe_int)
      (pss_hold (ps_while PassesOwn.never (pt_cmpR op_lt (pv 8) (pe_callB (lenK (K := K) rfl) (by rfl) z_len (by decide +kernel) (pa_cons (pv 3) pa_nil)) (nomark _)) (pss_hold (ps_set (i := 10) sc_law.nd rfl (Or.inl rfl) (pe_f c__law_mixed (hr.mono (by decide)) (pa_cons (pe_f c__law_cell_at (hr.mono (by decide)) (pa_cons (pv 0) (pa_cons (pe_op op_add pe_int (pe_op op_mod (pv 9) pe_int)) pa_nil))) (pa_cons (pv 9) pa_nil))))
      (pss_hold (ps_set (i := 6) sc_law.nd rfl (Or.inl rfl) (pe_op (op_catLK (K := K) rfl) (pv 6) (pe_mX T_Writer.cl c_Writer_take (hr.mono (by decide)) (fun σ => passNAt σ) (pv 4) (pa_cons (pe_slice (sl_listK (K := K) rfl) (pv 3) (po_some (pv 8)) (po_some (pe_op op_add (pe_op op_add (pv 8) pe_int) (pe_op op_mod (pv 10) pe_int)))) pa_nil))))
      (pss_hold (ps_set (i := 8) sc_law.nd rfl (Or.inl rfl) (pe_op op_add (pe_op op_add (pv 8) pe_int) (pe_op op_mod (pv 10) pe_int)))
      (pss_hold (ps_set (i := 6) sc_law.nd rfl (Or.inl rfl) (pe_f c__law_passed (hr.mono (by decide)) (pa_cons (pv 5) (pa_cons (pv 6) (pa_cons (pv 7) (pa_cons (pe_op op_mod (pe_op op_fdiv (pv 10) pe_int) pe_int) pa_nil))))))
      (pss_hold (ps_if (PW.pt (pw_or (pt_cmpR (op_neDK (K := K) rfl (hu2_of hr)) (pv 7) (pe_slice (sl_listK (K := K) rfl) (pv 3) po_none (po_some (pe_callB (lenK (K := K) rfl) (by rfl) z_len (by decide +kernel) (pa_cons (pv 7) pa_nil)))) (nomark _)) (pw_or (pt_cmpR op_gt (pe_callB (lenK (K := K) rfl) (by rfl) z_len (by decide +kernel) (pa_cons (pv 7) pa_nil)) (pv 8) (nomark _)) (pw_or1 (pt_cmpR (op_neDK (K := K) rfl (hu2_of hr)) (pe_mX0 T_Reader.cl c_Reader_told (hr.mono (by decide)) (fun σ => pass0At σ) (pv 5)) (pv 7) (nomark _)))))) (pss_one (ps_ret pe_bl)) pss_nil)
      (pss_one (ps_set (i := 9) sc_law.nd rfl (Or.inl rfl) (pe_op op_add (pv 9) pe_int)))))))))
      (pss_hold (ps_set (i := 6) sc_law.nd rfl (Or.inl rfl) (pe_op (op_catLK (K := K) rfl) (pv 6) (pe_mX0 T_Writer.cl c_Writer_end (hr.mono (by decide)) (fun σ => passNAt σ) (pv 4))))
      (pss_hold (ps_if (pt_cmpR (op_neDK (K := K) rfl (hu2_of hr)) (pe_mX0 T_Writer.cl c_Writer_told (hr.mono (by decide)) (fun σ => pass0At σ) (pv 4)) (pe_fN c_pressed (hr.mono (by decide)) (pa_cons (pv 1) (pa_cons (pe_callTy (listK (K := K) rfl) (by rfl) z_list (by decide +kernel) (pa_cons (pv 3) pa_nil)) pa_nil))) (nomark _)) (pss_one (ps_ret pe_bl)) pss_nil)
      (pss_hold (ps_while PassesOwn.never (pt_cmpR (op_neDK (K := K) rfl (hu2_of hr)) (pv 6) (pe_lst pa_nil) (nomark _)) (pss_hold (ps_set (i := 10) sc_law.nd rfl (Or.inl rfl) (pe_f c__law_mixed (hr.mono (by decide)) (pa_cons (pe_f c__law_cell_at (hr.mono (by decide)) (pa_cons (pv 0) (pa_cons (pe_op op_add pe_int (pe_op op_mod (pv 9) pe_int)) pa_nil))) (pa_cons (pv 9) pa_nil))))
      (pss_hold (ps_set (i := 6) sc_law.nd rfl (Or.inl rfl) (pe_f c__law_passed (hr.mono (by decide)) (pa_cons (pv 5) (pa_cons (pv 6) (pa_cons (pv 7) (pa_cons (pe_op op_add pe_int (pe_op op_mod (pv 10) pe_int)) pa_nil))))))
      (pss_hold (ps_if (PW.pt (pw_or (pt_cmpR (op_neDK (K := K) rfl (hu2_of hr)) (pv 7) (pe_slice (sl_listK (K := K) rfl) (pv 3) po_none (po_some (pe_callB (lenK (K := K) rfl) (by rfl) z_len (by decide +kernel) (pa_cons (pv 7) pa_nil)))) (nomark _)) (pw_or1 (pt_cmpR op_ne (pe_mX0 T_Reader.cl c_Reader_lacking (hr.mono (by decide)) (fun σ => pass0At σ) (pv 5)) (pe_op op_sub (pe_callB (lenK (K := K) rfl) (by rfl) z_len (by decide +kernel) (pa_cons (pv 3) pa_nil)) (pe_callB (lenK (K := K) rfl) (by rfl) z_len (by decide +kernel) (pa_cons (pv 7) pa_nil))) (nomark _))))) (pss_one (ps_ret pe_bl)) pss_nil)
      (pss_one (ps_set (i := 9) sc_law.nd rfl (Or.inl rfl) (pe_op op_add (pv 9) pe_int)))))))
      (pss_one (ps_ret (pe_and (pe_cmpR (op_eqDK (K := K) rfl (hu2_of hr)) (pv 7) (pv 3) (nomark _)) (pe_and (pe_cmpR (op_eqDK (K := K) rfl (hu2_of hr)) (pe_mX T_Reader.cl c_Reader_take (hr.mono (by decide)) (fun σ => passNAt σ) (pv 5) (pa_cons (pe_lst (pa_cons pe_int (pa_cons pe_int (pa_cons (pe_op op_mod (pe_op op_fdiv (pv 2) pe_int) pe_int) pa_nil)))) pa_nil)) (pe_lst pa_nil) (nomark _)) (pe_one (pe_cmpR (op_eqDK (K := K) rfl (hu2_of hr)) (pe_mX0 T_Reader.cl c_Reader_told (hr.mono (by decide)) (fun σ => pass0At σ) (pv 5)) (pv 3) (nomark _)))))))))))))))))))), ?_⟩
    have hsd : Dp K H (.ref a) (.list (ns.map PyData.int)) := .lst hs (dpa_ints ns)
    refine asgD (evd_plan (ev_cell (k := 0) (evd_var rfl hsd) ev_c)) fun v1 H1 s1 d1 => ?_
    have pl := plan_ok (cellAt ns 0)
    generalize planCs (cellAt ns 0) = cs at d1 pl
    generalize planG (cellAt ns 0) = g at d1 pl
    have l2 := pl.two
    have c1 := dp_same s1 _ _ hsd
    refine hold (asgV (v := .int (cellAt ns 2)) (ev_cell (k := 2) (evd_var rfl c1) ev_c) fun H2 s2 => ?_)
    have c2 := dp_same s2 _ _ c1
    have d2 := dp_same s2 _ _ d1
    obtain ⟨mo, hmo, m60⟩ : ∃ mo : Nat, (if decide (cellAt ns 2 % 16 = 1) then (60 : Int) else 14) = (mo : Int) ∧ mo ≤ 60 := by
      cases decide (cellAt ns 2 % 16 = 1)
      · exact ⟨14, rfl, by omega⟩
      · exact ⟨60, rfl, by omega⟩
    refine hold (asgO (evo_signs (most := mo) (ev_cell (k := 1) (evd_var rfl c2) ev_c) (evd_var rfl d2) (EvV.is (ev_pick (ev_intB (ev_eqI (ev_op (g := fun i j => V.int (i % j)) (ev_var rfl) ev_c (by decide)) ev_c))) (by rw [hmo])) (by omega) (by omega)) fun pS vs3 B np3 s3 e3 d3 => ?_)
    have tx : Text cs.length (signsOf (cellAt ns 1) cs.length (mo : Int)) := signs_text (by omega) m60
    have v3 := dpa_ints_eq d3
    subst v3
    clear d3
    generalize signsOf (cellAt ns 1) cs.length (mo : Int) = SS at tx e3
    have hSm : (SS.map PyData.int).length = SS.length := List.length_map ..
    have n60 := tx.1
    have c3 := dp_same s3 _ _ c2
    have d3 := dp_same s3 _ _ d2
    refine hold (asgT (wmakeOk (evd_var rfl d3) pl fun p l0 H4 np nl0 s4 WR => ?_))
    refine hold (asgT (rmakeOk (m := SS.length) (evd_var rfl (dp_same s4 _ _ d3)) (EvV.is (ev_lenL (evd_var rfl (dp_list (s4 _ _ e3)))) (by rw [hSm])) pl n60 fun pr lr H5 npr nlr s5 RD => ?_))
    refine hold (asgO (K := K) (ds := []) (evo_lst eds_nil (by show 0 ≤ 100000; omega)) fun pW vw H6 npW s6 eW dW => ?_)
    cases dW
    refine hold (asgO (K := K) (ds := []) (evo_lst eds_nil (by show 0 ≤ 100000; omega)) fun pT vt H7 npT s7 eT dT => ?_)
    cases dT
    refine hold (asgV ev_c fun H8 s8 => hold (asgV ev_c fun H9 s9 => ?_))
    have WR5 := WR.same s5
    obtain ⟨dxw, Sw, Pw, ePw, _⟩ := WR.at_
    obtain ⟨dxr, Sr, Pr, Ir, ePr, _⟩ := RD.at_
    have RD6 := RD.same s6
    have WR6 := WR5.same s6
    have s79 := (s7.trans s8).trans s9
    have S : St10 B p pr lr pT := ⟨fun x hx => by
      simp only [List.mem_cons, List.not_mem_nil, or_false] at hx
      rcases hx with rfl | rfl | rfl | rfl
      · exact np
      · exact s4.free npr
      · exact s4.free nlr
      · exact s4.free (s5.free (s6.free npT)), (ne_of npr ⟨_, ePw⟩).symm, (ne_of nlr ⟨_, ePw⟩).symm, (ne_of npT ⟨_, s6 _ _ (s5 _ _ ePw)⟩).symm, (ne_of npT ⟨_, s6 _ _ ePr⟩).symm, (ne_of npT ⟨_, s6 _ _ RD.sg⟩).symm⟩
    have e0 : sureOf (textS cs g []) = [] := sure_whole
    have I0 : In10 K B p pr lr pT cs g SS.length (SS.take 0) (sureOf (textS cs g (SS.take 0))) [] [] false l0 pW H9 := by
      have t0 : SS.take 0 = [] := List.take_zero
      rw [t0, e0]
      refine ⟨((((s4.trans s5).trans s6).trans s7).trans s8).trans s9, WR6.same s79, RD6.same s79, ?_, s79 _ _ eW, ⟨(ne_of npr ⟨_, WR.fg⟩).symm, (ne_of nlr ⟨_, WR.fg⟩).symm, (ne_of npT ⟨_, WR6.fg⟩).symm⟩, ⟨ne_of npW ⟨_, s5 _ _ ePw⟩, ne_of npW ⟨_, ePr⟩, ne_of npW ⟨_, RD.sg⟩, (ne_of npT ⟨_, eW⟩).symm⟩, rfl, fun _ h => nomatch h⟩
      rw [sgn_nil pl]
      exact (s8.trans s9) _ _ eT
    clear WR WR5 WR6 RD RD6 eW eT ePw ePr
    have hSB : ∀ {J : Hp}, Same B J → Dp K J (.ref pS) (.list (SS.map PyData.int)) := fun s => dp_list (s _ _ e3)
    have cB : ∀ {J : Hp}, Same B J → Dp K J (.ref a) (.list (ns.map PyData.int)) := fun s => dp_same s _ _ c3
    have dB : ∀ {J : Hp}, Same B J → Dp K J v1 (planD cs g) := fun s => dp_same s _ _ d3
    have txT : ∀ k : Nat, Text cs.length (SS.take k) := fun k => ⟨by rw [List.length_take]; omega, fun y hy => tx.2 y (List.mem_of_mem_take hy)⟩
    have few : ∀ {ss : List Int} {e : Bool}, Text cs.length ss → (toldOf (textS cs g ss) e).length ≤ 1500 := fun t => toldOf_few pl t
    have pre : ∀ {ts r : List Int} {k : Nat}, SS.take k = ts ++ r → SS.take ts.length = ts ∧ ts.length ≤ k := fun {ts r k} h => by
      have e : SS = ts ++ (r ++ SS.drop k) := by rw [← List.append_assoc, ← h, List.take_append_drop]
      have hl := congrArg List.length h
      rw [List.length_append, List.length_take] at hl
      refine ⟨?_, by omega⟩
      have := congrArg (List.take ts.length) e
      rw [List.take_left' rfl] at this
      exact this
    have mixC : ∀ {σ : L2.St} {J : Hp} {t : Nat}, σ[0]? = some (some (.ref a)) → σ[9]? = some (some (.int (t : Int))) → Same B J → t < 5000 → EvV (tCall sp_mixed [] E0 (tCons (tCall (sp_cell_at K) [] E0 (tCons (tVar 0) (tCons (tOp (rI0 fun i j => V.int (i + j)) (tC (.int 3)) (tOp (rI (fun x j => 0 < j) fun i j => V.int (i % j)) (tVar 9) (tC (.int 8)))) tNil))) (tCons (tVar 9) tNil))) σ J (.int (mixed (cellAt ns (3 + t % 8)) (t : Int))) := fun {σ J t} h0 h9 sJ ht =>
      ev_mixed8 (ev_cell (k := 3 + t % 8) (evd_var h0 (cB sJ)) (EvV.is (ev_op0 (g := fun i j => V.int (i + j)) ev_c (ev_op (g := fun i j => V.int (i % j)) (ev_var h9) ev_c (by decide))) (by rw [Int.natCast_add, Int.natCast_emod]; rfl))) (ev_var h9) (by omega) (by omega)
    refine hold ?_
    refine whileI (fun m σ' J => ∃ (at_ t : Nat) (ws as : List Int) (l pW : Addr) (y : Option V), σ' = [some (.ref a), some v1, some (.int (cellAt ns 2)), some (.ref pS), some (.ref p), some (.ref pr), some (.ref pW), some (.ref pT), some (.int (at_ : Int)), some (.int (t : Int)), y] ∧ In10 K B p pr lr pT cs g SS.length (SS.take at_) (sureOf (textS cs g (SS.take at_))) as ws false l pW J ∧ t ≤ at_ ∧ at_ ≤ SS.length + 3 ∧ m = SS.length - at_) _ ⟨0, 0, [], [], l0, pW, _, rfl, I0, Nat.le_refl _, by omega, rfl⟩ ?_
    rintro m σ' J ⟨at_, t, ws, as, l, pW, y, rfl, I, ht, hat, rfl⟩
    refine ⟨decide ((at_ : Int) < (SS.length : Int)), evb_test (ev_op0 (g := fun i j => V.bl (decide (i < j))) (ev_var rfl) (EvV.is (ev_lenL (evd_var rfl (hSB I.sJ))) (by rw [hSm]))), fun cc J1 q1 => ?_, fun cc J1 q1 => ?_⟩
    · have hlt := of_decide_eq_true cc
      have I1 := I.same q1
      refine asgV (mixC rfl rfl I1.sJ (by omega)) fun J2 q2 => ?_
      generalize mixed (cellAt ns (3 + t % 8)) (t : Int) = mm
      have I2 := I1.same q2
      have k0 : 0 ≤ mm % 3 := Int.emod_nonneg _ (by decide)
      have k1 : mm % 3 < 3 := Int.emod_lt_of_pos _ (by decide)
      obtain ⟨kk, hk⟩ : ∃ kk : Nat, mm % 3 = (kk : Int) := ⟨(mm % 3).toNat, by omega⟩
      have hz : SS.take at_ ++ ((SS.take (at_ + 1 + kk)).drop at_) = SS.take (at_ + 1 + kk) := by
        have := List.take_append_drop at_ (SS.take (at_ + 1 + kk))
        rw [List.take_take, Nat.min_eq_left (by omega)] at this
        exact this
      have tA : Text cs.length (SS.take at_ ++ ((SS.take (at_ + 1 + kk)).drop at_)) := by rw [hz]; exact txT _
      have plus : ∀ {σ : L2.St} {G : Hp}, σ[8]? = some (some (.int (at_ : Int))) → σ[10]? = some (some (.int mm)) → EvV (tOp (rI0 fun i j => V.int (i + j)) (tOp (rI0 fun i j => V.int (i + j)) (tVar 8) (tC (.int 1))) (tOp (rI (fun x j => 0 < j) fun i j => V.int (i % j)) (tVar 10) (tC (.int 3)))) σ G (.int ((at_ + 1 + kk : Nat) : Int)) := fun h8 h10 => EvV.is (ev_op0 (g := fun i j => V.int (i + j)) (ev_op0 (g := fun i j => V.int (i + j)) (ev_var h8) ev_c) (ev_op (g := fun i j => V.int (i % j)) (ev_var h10) ev_c (by decide))) (by rw [hk, Int.natCast_add, Int.natCast_add]; rfl)
      have sum := sure_more9 pl tA
      rw [hz] at sum
      have f1 := few (e := false) (txT at_)
      have f2 := few (e := false) (txT (at_ + 1 + kk))
      change (sureOf (textS cs g (SS.take at_))).length ≤ 1500 at f1
      change (sureOf (textS cs g (SS.take (at_ + 1 + kk)))).length ≤ 1500 at f2
      have wsl : as.length + ws.length ≤ 1500 := by rw [← List.length_append, I.eq]; exact f1
      refine hold (asgT (catTL ⟨_, rfl, wtakeOk (xs := (SS.take (at_ + 1 + kk)).drop at_) (ev_var rfl) (EvK.dat (EvO.k (EvO.is (evo_sl2 (evd_var rfl (hSB I2.sJ)) (ev_var rfl) (plus rfl rfl) (by omega) (by omega)) (by rw [List.map_drop, List.map_take, Int.toNat_natCast, Int.toNat_natCast])))) I2.wr pl tA fun yl r J3 ny nr yr k3 er WR3 => ?_⟩))
      rw [hz] at er WR3
      refine ⟨pW, r, _, _, rfl, rfl, .inl (.inl (k3 pW _ (by simp [I.nw.1]) I2.w)), .inl (.inl er), ?_, fun pW' npW' => ?_⟩
      · rw [List.length_map, List.length_map, List.length_drop]
        exact Nat.le_trans (m := 3000) (by omega) (by decide)
      rw [← List.map_append]
      have I3 := I2.told S (ws' := ws ++ (sureOf (textS cs g (SS.take (at_ + 1 + kk)))).drop (sureOf (textS cs g (SS.take at_))).length) ny k3 WR3 npW' (by rw [← List.append_assoc, I.eq, sum]) (sure_ok (textS_good pl (txT _))).1
      generalize ws ++ (sureOf (textS cs g (SS.take (at_ + 1 + kk)))).drop (sureOf (textS cs g (SS.take at_))).length = ws' at I3
      generalize upd J3 pW' (.lst (ws'.map V.int)) = J4 at I3
      refine hold (asgV (plus rfl rfl) fun J5 q5 => ?_)
      have I5 := I3.same q5
      have c0 : 0 ≤ mm / 3 % 5 := Int.emod_nonneg _ (by decide)
      refine hold (asgT (call4R (ev_var rfl) (ev_var rfl) (ev_var rfl) (ev_op (g := fun i j => V.int (i % j)) (ev_op (g := fun i j => V.int (i / j)) (ev_var rfl) ev_c ⟨by decide, by decide⟩) ev_c (by decide)) fun J6 q6 => ?_))
      have I6 := I5.same q6
      have wsl' : as.length + ws'.length ≤ 1500 := by rw [← List.length_append, I6.eq]; exact f2
      have hts := (sgn_signs pl SS.length as).1
      refine ⟨pr, lr, pW', pT, mm / 3 % 5, cs, as, ws', sgn cs g SS.length as, g, SS.length, rfl, I6.rd, ⟨pl, n60, I6.ba, by omega⟩, I6.bw, by omega, I6.w, I6.t, by omega, c0, I6.nw.2.2.1, I6.nw.2.2.2, S.h5.symm, fun r7 J7 nr7 k7 R7 t7 e7 => ?_⟩
      have tb : Bits (ws'.take (mm / 3 % 5).toNat) := fun x hx => I6.bw x (List.mem_of_mem_take hx)
      rw [sgn_grow10 pl I6.ba tb] at t7
      have I7 := I6.pass S k7 nr7 R7 t7 e7
      generalize as ++ ws'.take (mm / 3 % 5).toNat = as7 at I7
      generalize ws'.drop (mm / 3 % 5).toNat = ws7 at I7
      clear t7 R7 e7
      obtain ⟨rr, hrr⟩ := sgn_within10 (m := SS.length) pl (txT (at_ + 1 + kk)) I7.ba I7.bw I7.eq
      obtain ⟨p1, p2⟩ := pre hrr
      have hs7 := (sgn_signs pl SS.length as7).1
      have lenT : ∀ {σ : L2.St} {G : Hp}, σ[7]? = some (some (.ref pT)) → Same J7 G → EvV (tCB (rLenK K) (tCons (tVar 7) tNil)) σ G (.int ((sgn cs g SS.length as7).length : Int)) := fun h sG => EvV.is (ev_lenL (evd_var h (dp_list (sG _ _ I7.t)))) (by rw [List.length_map])
      refine hold (ifNo (EvB.is (evb_or (evb_test (ev_neL (ms := SS.take (sgn cs g SS.length as7).length) (evd_var rfl (dp_list I7.t)) (EvD.is (EvK.dat (EvO.k (evo_takeL2 (evd_var rfl (hSB I7.sJ)) (lenT rfl (Same.refl _)) (by omega)))) (by rw [List.map_take, Int.toNat_natCast])))) fun _ => evb_or (evb_test (ev_op0 (g := fun i j => V.bl (decide (i > j))) (lenT rfl (Same.refl _)) (ev_var rfl))) fun _ => evb_test (ev_neL (EvK.dat (EvO.k (evo_rtold (ev_var rfl) I7.rd))) (evd_var rfl (dp_list I7.t)))) ?_) fun J8 q8 => ?_)
      · rw [p1, decide_eq_true rfl, decide_eq_false (show ¬ ((sgn cs g SS.length as7).length : Int) > ((at_ + 1 + kk : Nat) : Int) by omega)]
        rfl
      refine hold (asgLast (v := .int ((t + 1 : Nat) : Int)) (EvV.is (ev_op0 (g := fun i j => V.int (i + j)) (ev_var rfl) ev_c) (by rw [Int.natCast_add]; rfl)) fun J9 q9 => ?_)
      exact ⟨SS.length - (at_ + 1 + kk), by omega, at_ + 1 + kk, t + 1, ws7, as7, yl, r7, _, rfl, I7.same (q8.trans q9), by omega, by omega, rfl⟩
    · -- the end
      have hge := of_decide_eq_false cc
      have full : SS.take at_ = SS := List.take_of_length_le (by omega)
      rw [full] at I
      have I1 := I.same q1
      have nn := told_end pl tx
      have f1 := few (e := false) tx
      have f2 := few (e := true) tx
      change (sureOf (textS cs g SS)).length ≤ 1500 at f1
      change (figsIn (textS cs g SS)).length ≤ 1500 at f2
      have wsl : as.length + ws.length ≤ 1500 := by rw [← List.length_append, I.eq]; exact f1
      refine hold (asgT (catTL ⟨_, rfl, wendRun (e := false) (ev_var rfl) I1.wr pl tx (fun z => nomatch z) fun _ yl r J3 ny nr yr k3 er WR3 => ?_⟩))
      refine ⟨pW, r, _, _, rfl, rfl, .inl (.inl (k3 pW _ (by simp [I.nw.1]) I1.w)), .inl (.inl er), ?_, fun pW' npW' => ?_⟩
      · rw [List.length_map, List.length_map, List.length_drop]
        exact Nat.le_trans (m := 3000) (by omega) (by decide)
      rw [← List.map_append]
      have I3 := I1.told S (ws' := ws ++ (figsIn (textS cs g SS)).drop (sureOf (textS cs g SS)).length) ny k3 WR3 npW' (by rw [← List.append_assoc, I.eq, nn]) (figsIn_bits _)
      generalize ws ++ (figsIn (textS cs g SS)).drop (sureOf (textS cs g SS)).length = ws' at I3
      generalize upd J3 pW' (.lst (ws'.map V.int)) = J4 at I3
      refine hold (ifNo (EvB.is (evb_test (ev_neL (EvK.dat (EvO.k (evo_wtold (ev_var rfl) I3.wr))) (EvK.dat (EvO.k (evo_XO (eds_cons (evd_var rfl (dB I3.sJ)) (eds_cons (EvK.dat (EvO.k (evd_listOfL (evd_var rfl (hSB I3.sJ))))) eds_nil)) rfl (pressed_yes pl tx)))))) (by rw [decide_eq_true rfl]; rfl)) fun J5 q5 => ?_)
      have I5 := I3.same q5
      have wsl3 : as.length + ws'.length ≤ 1500 := by rw [← List.length_append, I5.eq]; exact f2
      refine hold ?_
      refine whileI (fun m σ' J => ∃ (t : Nat) (ws as : List Int) (pW : Addr) (y : Option V), σ' = [some (.ref a), some v1, some (.int (cellAt ns 2)), some (.ref pS), some (.ref p), some (.ref pr), some (.ref pW), some (.ref pT), some (.int (at_ : Int)), some (.int (t : Int)), y] ∧ In10 K B p pr lr pT cs g SS.length SS (figsIn (textS cs g SS)) as ws true yl pW J ∧ t + ws.length ≤ 2000 ∧ m = ws.length) _ ⟨t, ws', as, pW', _, rfl, I5, by omega, rfl⟩ ?_
      clear I I1 I3 I5 wsl wsl3 WR3 k3
      rintro m σ' J ⟨t, ws, as, pW, y, rfl, I, ht, rfl⟩
      have wsl : as.length + ws.length ≤ 1500 := by rw [← List.length_append, I.eq]; exact f2
      refine ⟨!decide (ws = []), evb_test (ev_neL (ms := []) (evd_var rfl (dp_list I.w)) (EvK.dat (EvO.k (evo_lst eds_nil (by show 0 ≤ 100000; omega))))), fun cc J1 q1 => ?_, fun cc J1 q1 => ?_⟩
      · have ne : ws ≠ [] := fun z => by
          rw [z] at cc
          cases cc
        have pos : 0 < ws.length := List.length_pos_iff.mpr ne
        have I1 := I.same q1
        refine asgV (mixC rfl rfl I1.sJ (by omega)) fun J2 q2 => ?_
        generalize mixed (cellAt ns (3 + t % 8)) (t : Int) = mm
        have I2 := I1.same q2
        have k0 : 0 ≤ mm % 4 := Int.emod_nonneg _ (by decide)
        refine hold (asgT (call4R (ev_var rfl) (ev_var rfl) (ev_var rfl) (ev_op0 (g := fun i j => V.int (i + j)) ev_c (ev_op (g := fun i j => V.int (i % j)) (ev_var rfl) ev_c (by decide))) fun J6 q6 => ?_))
        have I6 := I2.same q6
        have hts := (sgn_signs pl SS.length as).1
        refine ⟨pr, lr, pW, pT, 1 + mm % 4, cs, as, ws, sgn cs g SS.length as, g, SS.length, rfl, I6.rd, ⟨pl, n60, I6.ba, by omega⟩, I6.bw, by omega, I6.w, I6.t, by omega, by omega, I6.nw.2.2.1, I6.nw.2.2.2, S.h5.symm, fun r7 J7 nr7 k7 R7 t7 e7 => ?_⟩
        have tb : Bits (ws.take (1 + mm % 4).toNat) := fun x hx => I6.bw x (List.mem_of_mem_take hx)
        rw [sgn_grow10 pl I6.ba tb] at t7
        have I7 := I6.pass S k7 nr7 R7 t7 e7
        have shorter : (ws.drop (1 + mm % 4).toNat).length < ws.length := by rw [List.length_drop]; omega
        generalize as ++ ws.take (1 + mm % 4).toNat = as7 at I7
        generalize ws.drop (1 + mm % 4).toNat = ws7 at I7 shorter
        clear t7 R7 e7
        obtain ⟨rr, hrr⟩ := sgn_within11 pl tx I7.ba I7.bw I7.eq
        obtain ⟨p1, p2⟩ := pre (k := SS.length) (by rw [List.take_length]; exact hrr)
        have hs7 := (sgn_signs pl SS.length as7).1
        have lenT : ∀ {σ : L2.St} {G : Hp}, σ[7]? = some (some (.ref pT)) → Same J7 G → EvV (tCB (rLenK K) (tCons (tVar 7) tNil)) σ G (.int ((sgn cs g SS.length as7).length : Int)) := fun h sG => EvV.is (ev_lenL (evd_var h (dp_list (sG _ _ I7.t)))) (by rw [List.length_map])
        refine hold (ifNo (EvB.is (evb_or (evb_test (ev_neL (ms := SS.take (sgn cs g SS.length as7).length) (evd_var rfl (dp_list I7.t)) (EvD.is (EvK.dat (EvO.k (evo_takeL2 (evd_var rfl (hSB I7.sJ)) (lenT rfl (Same.refl _)) (by omega)))) (by rw [List.map_take, Int.toNat_natCast])))) fun _ => evb_test (ev_neI (ev_lacking (ev_var rfl) I7.rd) (ev_op0 (g := fun i j => V.int (i - j)) (EvV.is (ev_lenL (evd_var rfl (hSB I7.sJ))) (by rw [hSm])) (lenT rfl (Same.refl _))))) ?_) fun J8 q8 => ?_)
        · rw [p1, decide_eq_true rfl, decide_eq_true rfl]
          rfl
        refine hold (asgLast (v := .int ((t + 1 : Nat) : Int)) (EvV.is (ev_op0 (g := fun i j => V.int (i + j)) (ev_var rfl) ev_c) (by rw [Int.natCast_add]; rfl)) fun J9 q9 => ?_)
        exact ⟨ws7.length, shorter, t + 1, ws7, as7, r7, _, rfl, I7.same (q8.trans q9), by omega, rfl⟩
      · have we : ws = [] := by
          cases h : decide (ws = []) with
          | true => exact of_decide_eq_true h
          | false => rw [h] at cc; cases cc
        subst we
        have ea : as = figsIn (textS cs g SS) := by have := I.eq; rw [List.append_nil] at this; exact this
        have I1 := I.same q1
        have back : sgn cs g SS.length as = SS := by
          rw [ea, sgn_back0 (m := SS.length) pl tx (Nat.le_refl _), List.take_length]
        have bx : Bits [1, 0, cellAt ns 2 / 16 % 2] := fun x hx => by
          simp only [List.mem_cons, List.not_mem_nil, or_false] at hx
          have := Int.emod_nonneg (cellAt ns 2 / 16) (show (2 : Int) ≠ 0 by decide)
          have := Int.emod_lt_of_pos (cellAt ns 2 / 16) (show (0 : Int) < 2 by decide)
          rcases hx with rfl | rfl | rfl <;> omega
        have back2 : sgn cs g SS.length (as ++ [1, 0, cellAt ns 2 / 16 % 2]) = SS := by
          rw [ea, sgn_back (m := SS.length) pl tx bx (Nat.le_refl _), List.take_length]
        have tT := I1.t
        rw [back] at tT
        refine hold (retT (andT ?_))
        refine EvV.run (EvV.is (ev_eqL (evd_var rfl (dp_list tT)) (evd_var rfl (hSB I1.sJ))) (by rw [decide_eq_true rfl])) fun J2 q2 => ⟨true, rfl, iteT (andT (eqT ?_))⟩
        have I2 := I1.same q2
        refine rtakeOk (fs := [1, 0, cellAt ns 2 / 16 % 2]) (ev_var rfl) (EvK.dat (EvO.k (evo_lst (eds_cons evd_int (eds_cons evd_int (eds_cons (EvV.int (ev_op (g := fun i j => V.int (i % j)) (ev_op (g := fun i j => V.int (i / j)) (ev_var rfl) ev_c ⟨by decide, by decide⟩) ev_c (by decide))) eds_nil))) (by show 3 ≤ 100000; omega)))) I2.rd ⟨pl, n60, I2.ba, by omega⟩ bx (by show as.length + 3 ≤ 4000; omega) fun r J3 nr k3 er R3 => ?_
        have nd : (sgn cs g SS.length (as ++ [1, 0, cellAt ns 2 / 16 % 2])).drop (sgn cs g SS.length as).length = [] := by
          rw [back2, back]
          exact List.drop_length
        rw [nd] at er
        refine lstT ⟨(by show 0 ≤ sizeLine; decide), fun z nz => ?_⟩
        have sz := same_upd nz (o := HO.lst [])
        refine ⟨_, _, dp_list (ns := []) (sz _ _ er), dp_list (ns := []) upd_same, listSh _, listSh _, ⟨true, rfl, iteT ?_⟩⟩
        have R4 := R3.same sz
        have sBJ := (k3.over I2.sJ (fun x hx => S.fr x (by
          simp only [List.mem_cons, List.not_mem_nil, or_false] at hx ⊢
          rcases hx with h | h <;> simp [h]))).trans sz
        refine EvV.run (v := .bl true) (EvV.is (ev_eqL (EvK.dat (EvO.k (evo_rtold (ev_var rfl) R4))) (evd_var rfl (hSB sBJ))) (by rw [back2, decide_eq_true rfl])) fun J5 _ => q J5
end

/-! ### what the top leaves -/
def dd (i : Nat) (x : Str) : He.DefD := ⟨(x, none), x, x, defArgs (topS i), defBody (topS i), defScope (topS i), [], []⟩
def dm (i j : Nat) (C x q : Str) : He.DefD := ⟨(C, some x), x, q, defArgs (inClass (topS i) j), defBody (inClass (topS i) j), defScope (inClass (topS i) j), [], []⟩
def fn : List He.DefD := [dd 8 "is_whole", dd 22 "_last_sign", dd 26 "parted", dd 27 "within", dd 31 "lengthened", dd 36 "_fewest", dd 37 "_first_number", dd 38 "_by_twos", dm 40 3 "Writer" "told" "Writer.told", dm 40 4 "Writer" "_refuse_ended" "Writer._refuse_ended", dm 40 5 "Writer" "_tell" "Writer._tell", dm 42 2 "Reader" "told" "Reader.told", dm 42 3 "Reader" "lacking" "Reader.lacking", dd 46 "_law_cell_at", dd 47 "_law_mixed", dd 48 "_law_whole", dd 50 "_law_behind", dd 53 "_law_within", dd 9 "are_whole", dd 33 "figures_in", dd 34 "figures_around", dd 44 "_need_many", dd 49 "_law_plan", dd 51 "_law_signs", dd 52 "_law_stretch", dd 10 "is_whole_list", dd 17 "need_plan", dm 40 2 "Writer" "end" "Writer.end", dd 18 "need_signs", dd 21 "_need_sign", dd 30 "need_figures", dm 40 0 "Writer" "__init__" "Writer.__init__", dm 42 0 "Reader" "__init__" "Reader.__init__", dd 19 "share", dd 20 "behind", dd 29 "stepped", dd 43 "_sign_around", dd 28 "stretch_of", dm 40 1 "Writer" "take" "Writer.take", dm 42 4 "Reader" "_further" "Reader._further", dd 35 "pressed", dm 42 1 "Reader" "take" "Reader.take", dd 54 "_law_passed", dd 55 "law"]
def fa : List He.Fa := [.glo "is_whole", .glo "_last_sign", .glo "parted", .glo "within", .glo "lengthened", .glo "_fewest", .glo "_first_number", .glo "_by_twos", .glo "_law_cell_at", .glo "_law_mixed", .glo "_law_whole", .glo "_law_behind", .glo "_law_within", .glo "are_whole", .glo "figures_in", .glo "figures_around", .glo "_need_many", .glo "_law_plan", .glo "_law_signs", .glo "_law_stretch", .glo "is_whole_list", .glo "need_plan", .glo "need_signs", .glo "_need_sign", .glo "need_figures", .glo "share", .glo "behind", .glo "stepped", .glo "_sign_around", .glo "stretch_of", .glo "pressed", .glo "_law_passed", .glo "law", .glo "PressError", .glo "BadPlan", .glo "BadSign", .glo "BadCount", .glo "BadFigures", .glo "Ended", .glo "Writer", .glo "Reader", .free "all", .free "bool", .free "int", .free "isinstance", .free "len", .free "list", .free "min", .free "range", .free "reversed", .free "sum", .free "tuple", .free "type", .glo "WHOLE", .int "FEWEST_COUNTS" 2, .int "GREATEST_COUNT" 1000000, .int "GREATEST_GAIN" 1000000, .int "LONGEST_TEXT" 60, .int "MOST_COUNTS" 8, .int "MOST_FIGURES" 4000, .cls "Writer", .mkr "Writer", .noat "Writer" "_taken", .noat "Writer" "_stretch", .noat "Writer" "_plan", .noat "Writer" "_figures", .noat "Writer" "_ended", .meth "Writer" "told", .meth "Writer" "_refuse_ended", .meth "Writer" "_tell", .meth "Writer" "end", .meth "Writer" "take", .cls "Reader", .mkr "Reader", .noat "Reader" "_many", .noat "Reader" "_signs", .noat "Reader" "_stretch", .noat "Reader" "_plan", .noat "Reader" "_taken", .noat "Reader" "_inner", .meth "Reader" "told", .meth "Reader" "lacking", .meth "Reader" "_further", .meth "Reader" "take"]
abbrev R : PySem.W.OpenRow := PySem.W.OpenLaw.row PySem.Challenge.rw_partline_k10_whole_by_and_by
abbrev exB (K : PySem.W.Frag) : Bool := errB K && He.tupB K "WHOLE" [.int 0, .int 1, .int 1]
abbrev hk : PySem.W.Hook := He.hookX 4 fa fn [] [] exB
def ob (s : PySem.W.SharedT) : He.AlX := He.obsX 4 fa fn [] [] exB (HandSHeadRun.getT s)
theorem ob_eq (s : PySem.W.SharedT) : ob s = hk.obs s.abs := He.obsX_eq (HandSHeadRun.getT_eq s)
def names : List Str := (["PressError", "BadPlan", "BadSign", "BadCount", "BadFigures", "Ended", "is_whole", "are_whole", "is_whole_list", "FEWEST_COUNTS", "MOST_COUNTS", "GREATEST_COUNT", "GREATEST_GAIN", "LONGEST_TEXT", "need_plan", "need_signs", "share", "behind", "_need_sign", "_last_sign"] : List Str) ++ (["WHOLE", "MOST_FIGURES", "parted", "within", "stretch_of", "stepped", "need_figures", "lengthened", "figures_in", "figures_around", "pressed", "_fewest", "_first_number", "_by_twos", "Writer", "Reader", "_sign_around", "_need_many", "_law_cell_at", "_law_mixed"] : List Str) ++ (["_law_whole", "_law_plan", "_law_behind", "_law_signs", "_law_stretch", "_law_within", "_law_passed"] : List Str)
theorem run (w : World) : HandSHeadRun.RunEq R (PySem.W.view R.prog [55]) hk ob 30000 names w := by
  intro os
  kernel_rfl
theorem facts {w : World} {K : PySem.W.Frag} {h : Heap} {mg : Str → Option Value} {f : Addr} (X : K.In h) (G : h.Ns mainGlobals mg) (hfa : mg ("law" : Str) = some (.ref f)) (c : He.SaysX fa fn [] [] exB w h K) :
    ∃ fd : FuncData, (∀ (s : Shared) (v : Value), BindsTo s fd ⟨[v], []⟩ [("_law_script", v)]) ∧ ∀ base : Heap, K.In base → base.Ns mainGlobals mg → FnOk PP w K mg base CX0 10 f fd ["_law_script"] (sp_law K) := by
  have cm : exB K = true := c.more
  have t_WHOLE : ∀ H : Hp, SqT K H (He.ga K "WHOLE") [.int 0, .int 1, .int 1] := fun H => He.tupB_ok (He.ba cm).2 H
  replace cm := (He.ba cm).1
  have T : ErrTop K := errB_ok cm
  have D : He.SaysD fa fn K := c.t.d
  obtain ⟨fd_is_whole, F_is_whole⟩ := D.def_ 0 (d := dd 8 "is_whole") rfl
  obtain ⟨fd__last_sign, F__last_sign⟩ := D.def_ 1 (d := dd 22 "_last_sign") rfl
  obtain ⟨fd_parted, F_parted⟩ := D.def_ 2 (d := dd 26 "parted") rfl
  obtain ⟨fd_within, F_within⟩ := D.def_ 3 (d := dd 27 "within") rfl
  obtain ⟨fd_lengthened, F_lengthened⟩ := D.def_ 4 (d := dd 31 "lengthened") rfl
  obtain ⟨fd__fewest, F__fewest⟩ := D.def_ 5 (d := dd 36 "_fewest") rfl
  obtain ⟨fd__first_number, F__first_number⟩ := D.def_ 6 (d := dd 37 "_first_number") rfl
  obtain ⟨fd__by_twos, F__by_twos⟩ := D.def_ 7 (d := dd 38 "_by_twos") rfl
  obtain ⟨fd_Writer_told, F_Writer_told⟩ := D.def_ 8 (d := dm 40 3 "Writer" "told" "Writer.told") rfl
  obtain ⟨fd_Writer__refuse_ended, F_Writer__refuse_ended⟩ := D.def_ 9 (d := dm 40 4 "Writer" "_refuse_ended" "Writer._refuse_ended") rfl
  obtain ⟨fd_Writer__tell, F_Writer__tell⟩ := D.def_ 10 (d := dm 40 5 "Writer" "_tell" "Writer._tell") rfl
  obtain ⟨fd_Reader_told, F_Reader_told⟩ := D.def_ 11 (d := dm 42 2 "Reader" "told" "Reader.told") rfl
  obtain ⟨fd_Reader_lacking, F_Reader_lacking⟩ := D.def_ 12 (d := dm 42 3 "Reader" "lacking" "Reader.lacking") rfl
  obtain ⟨fd__law_cell_at, F__law_cell_at⟩ := D.def_ 13 (d := dd 46 "_law_cell_at") rfl
  obtain ⟨fd__law_mixed, F__law_mixed⟩ := D.def_ 14 (d := dd 47 "_law_mixed") rfl
  obtain ⟨fd__law_whole, F__law_whole⟩ := D.def_ 15 (d := dd 48 "_law_whole") rfl
  obtain ⟨fd__law_behind, F__law_behind⟩ := D.def_ 16 (d := dd 50 "_law_behind") rfl
  obtain ⟨fd__law_within, F__law_within⟩ := D.def_ 17 (d := dd 53 "_law_within") rfl
  obtain ⟨fd_are_whole, F_are_whole⟩ := D.def_ 18 (d := dd 9 "are_whole") rfl
  obtain ⟨fd_figures_in, F_figures_in⟩ := D.def_ 19 (d := dd 33 "figures_in") rfl
  obtain ⟨fd_figures_around, F_figures_around⟩ := D.def_ 20 (d := dd 34 "figures_around") rfl
  obtain ⟨fd__need_many, F__need_many⟩ := D.def_ 21 (d := dd 44 "_need_many") rfl
  obtain ⟨fd__law_plan, F__law_plan⟩ := D.def_ 22 (d := dd 49 "_law_plan") rfl
  obtain ⟨fd__law_signs, F__law_signs⟩ := D.def_ 23 (d := dd 51 "_law_signs") rfl
  obtain ⟨fd__law_stretch, F__law_stretch⟩ := D.def_ 24 (d := dd 52 "_law_stretch") rfl
  obtain ⟨fd_is_whole_list, F_is_whole_list⟩ := D.def_ 25 (d := dd 10 "is_whole_list") rfl
  obtain ⟨fd_need_plan, F_need_plan⟩ := D.def_ 26 (d := dd 17 "need_plan") rfl
  obtain ⟨fd_Writer_end, F_Writer_end⟩ := D.def_ 27 (d := dm 40 2 "Writer" "end" "Writer.end") rfl
  obtain ⟨fd_need_signs, F_need_signs⟩ := D.def_ 28 (d := dd 18 "need_signs") rfl
  obtain ⟨fd__need_sign, F__need_sign⟩ := D.def_ 29 (d := dd 21 "_need_sign") rfl
  obtain ⟨fd_need_figures, F_need_figures⟩ := D.def_ 30 (d := dd 30 "need_figures") rfl
  obtain ⟨fd_Writer___init__, F_Writer___init__⟩ := D.def_ 31 (d := dm 40 0 "Writer" "__init__" "Writer.__init__") rfl
  obtain ⟨fd_Reader___init__, F_Reader___init__⟩ := D.def_ 32 (d := dm 42 0 "Reader" "__init__" "Reader.__init__") rfl
  obtain ⟨fd_share, F_share⟩ := D.def_ 33 (d := dd 19 "share") rfl
  obtain ⟨fd_behind, F_behind⟩ := D.def_ 34 (d := dd 20 "behind") rfl
  obtain ⟨fd_stepped, F_stepped⟩ := D.def_ 35 (d := dd 29 "stepped") rfl
  obtain ⟨fd__sign_around, F__sign_around⟩ := D.def_ 36 (d := dd 43 "_sign_around") rfl
  obtain ⟨fd_stretch_of, F_stretch_of⟩ := D.def_ 37 (d := dd 28 "stretch_of") rfl
  obtain ⟨fd_Writer_take, F_Writer_take⟩ := D.def_ 38 (d := dm 40 1 "Writer" "take" "Writer.take") rfl
  obtain ⟨fd_Reader__further, F_Reader__further⟩ := D.def_ 39 (d := dm 42 4 "Reader" "_further" "Reader._further") rfl
  obtain ⟨fd_pressed, F_pressed⟩ := D.def_ 40 (d := dd 35 "pressed") rfl
  obtain ⟨fd_Reader_take, F_Reader_take⟩ := D.def_ 41 (d := dm 42 1 "Reader" "take" "Reader.take") rfl
  obtain ⟨fd__law_passed, F__law_passed⟩ := D.def_ 42 (d := dd 54 "_law_passed") rfl
  obtain ⟨fd_law, F_law⟩ := D.def_ 43 (d := dd 55 "law") rfl
  have g_is_whole := He.glo_ok X G (D.fact 0 (f := .glo "is_whole") rfl)
  have g__last_sign := He.glo_ok X G (D.fact 1 (f := .glo "_last_sign") rfl)
  have g_parted := He.glo_ok X G (D.fact 2 (f := .glo "parted") rfl)
  have g_within := He.glo_ok X G (D.fact 3 (f := .glo "within") rfl)
  have g_lengthened := He.glo_ok X G (D.fact 4 (f := .glo "lengthened") rfl)
  have g__fewest := He.glo_ok X G (D.fact 5 (f := .glo "_fewest") rfl)
  have g__first_number := He.glo_ok X G (D.fact 6 (f := .glo "_first_number") rfl)
  have g__by_twos := He.glo_ok X G (D.fact 7 (f := .glo "_by_twos") rfl)
  have g__law_cell_at := He.glo_ok X G (D.fact 8 (f := .glo "_law_cell_at") rfl)
  have g__law_mixed := He.glo_ok X G (D.fact 9 (f := .glo "_law_mixed") rfl)
  have g__law_whole := He.glo_ok X G (D.fact 10 (f := .glo "_law_whole") rfl)
  have g__law_behind := He.glo_ok X G (D.fact 11 (f := .glo "_law_behind") rfl)
  have g__law_within := He.glo_ok X G (D.fact 12 (f := .glo "_law_within") rfl)
  have g_are_whole := He.glo_ok X G (D.fact 13 (f := .glo "are_whole") rfl)
  have g_figures_in := He.glo_ok X G (D.fact 14 (f := .glo "figures_in") rfl)
  have g_figures_around := He.glo_ok X G (D.fact 15 (f := .glo "figures_around") rfl)
  have g__need_many := He.glo_ok X G (D.fact 16 (f := .glo "_need_many") rfl)
  have g__law_plan := He.glo_ok X G (D.fact 17 (f := .glo "_law_plan") rfl)
  have g__law_signs := He.glo_ok X G (D.fact 18 (f := .glo "_law_signs") rfl)
  have g__law_stretch := He.glo_ok X G (D.fact 19 (f := .glo "_law_stretch") rfl)
  have g_is_whole_list := He.glo_ok X G (D.fact 20 (f := .glo "is_whole_list") rfl)
  have g_need_plan := He.glo_ok X G (D.fact 21 (f := .glo "need_plan") rfl)
  have g_need_signs := He.glo_ok X G (D.fact 22 (f := .glo "need_signs") rfl)
  have g__need_sign := He.glo_ok X G (D.fact 23 (f := .glo "_need_sign") rfl)
  have g_need_figures := He.glo_ok X G (D.fact 24 (f := .glo "need_figures") rfl)
  have g_share := He.glo_ok X G (D.fact 25 (f := .glo "share") rfl)
  have g_behind := He.glo_ok X G (D.fact 26 (f := .glo "behind") rfl)
  have g_stepped := He.glo_ok X G (D.fact 27 (f := .glo "stepped") rfl)
  have g__sign_around := He.glo_ok X G (D.fact 28 (f := .glo "_sign_around") rfl)
  have g_stretch_of := He.glo_ok X G (D.fact 29 (f := .glo "stretch_of") rfl)
  have g_pressed := He.glo_ok X G (D.fact 30 (f := .glo "pressed") rfl)
  have g__law_passed := He.glo_ok X G (D.fact 31 (f := .glo "_law_passed") rfl)
  have g_law := He.glo_ok X G (D.fact 32 (f := .glo "law") rfl)
  have g_PressError := He.glo_ok X G (D.fact 33 (f := .glo "PressError") rfl)
  have g_BadPlan := He.glo_ok X G (D.fact 34 (f := .glo "BadPlan") rfl)
  have g_BadSign := He.glo_ok X G (D.fact 35 (f := .glo "BadSign") rfl)
  have g_BadCount := He.glo_ok X G (D.fact 36 (f := .glo "BadCount") rfl)
  have g_BadFigures := He.glo_ok X G (D.fact 37 (f := .glo "BadFigures") rfl)
  have g_Ended := He.glo_ok X G (D.fact 38 (f := .glo "Ended") rfl)
  have g_Writer := He.glo_ok X G (D.fact 39 (f := .glo "Writer") rfl)
  have g_Reader := He.glo_ok X G (D.fact 40 (f := .glo "Reader") rfl)
  have z_all := He.free_ok X G (D.fact 41 (f := .free "all") rfl)
  have z_bool := He.free_ok X G (D.fact 42 (f := .free "bool") rfl)
  have z_int := He.free_ok X G (D.fact 43 (f := .free "int") rfl)
  have z_isinstance := He.free_ok X G (D.fact 44 (f := .free "isinstance") rfl)
  have z_len := He.free_ok X G (D.fact 45 (f := .free "len") rfl)
  have z_list := He.free_ok X G (D.fact 46 (f := .free "list") rfl)
  have z_min := He.free_ok X G (D.fact 47 (f := .free "min") rfl)
  have z_range := He.free_ok X G (D.fact 48 (f := .free "range") rfl)
  have z_reversed := He.free_ok X G (D.fact 49 (f := .free "reversed") rfl)
  have z_sum := He.free_ok X G (D.fact 50 (f := .free "sum") rfl)
  have z_tuple := He.free_ok X G (D.fact 51 (f := .free "tuple") rfl)
  have z_type := He.free_ok X G (D.fact 52 (f := .free "type") rfl)
  have g_WHOLE := He.glo_ok X G (D.fact 53 (f := .glo "WHOLE") rfl)
  obtain ⟨u_FEWEST_COUNTS, g_FEWEST_COUNTS⟩ := He.int_ok X G (D.fact 54 (f := .int "FEWEST_COUNTS" 2) rfl)
  obtain ⟨u_GREATEST_COUNT, g_GREATEST_COUNT⟩ := He.int_ok X G (D.fact 55 (f := .int "GREATEST_COUNT" 1000000) rfl)
  obtain ⟨u_GREATEST_GAIN, g_GREATEST_GAIN⟩ := He.int_ok X G (D.fact 56 (f := .int "GREATEST_GAIN" 1000000) rfl)
  obtain ⟨u_LONGEST_TEXT, g_LONGEST_TEXT⟩ := He.int_ok X G (D.fact 57 (f := .int "LONGEST_TEXT" 60) rfl)
  obtain ⟨u_MOST_COUNTS, g_MOST_COUNTS⟩ := He.int_ok X G (D.fact 58 (f := .int "MOST_COUNTS" 8) rfl)
  obtain ⟨u_MOST_FIGURES, g_MOST_FIGURES⟩ := He.int_ok X G (D.fact 59 (f := .int "MOST_FIGURES" 4000) rfl)
  have cl_Writer := He.cls_ok (D.fact 60 (f := .cls "Writer") rfl)
  have mk_Writer := He.mkr_ok (D.fact 61 (f := .mkr "Writer") rfl)
  have na_Writer__taken := He.noat_ok (D.fact 62 (f := .noat "Writer" "_taken") rfl)
  have na_Writer__stretch := He.noat_ok (D.fact 63 (f := .noat "Writer" "_stretch") rfl)
  have na_Writer__plan := He.noat_ok (D.fact 64 (f := .noat "Writer" "_plan") rfl)
  have na_Writer__figures := He.noat_ok (D.fact 65 (f := .noat "Writer" "_figures") rfl)
  have na_Writer__ended := He.noat_ok (D.fact 66 (f := .noat "Writer" "_ended") rfl)
  have me_Writer_told := He.meth_ok (D.fact 67 (f := .meth "Writer" "told") rfl)
  have me_Writer__refuse_ended := He.meth_ok (D.fact 68 (f := .meth "Writer" "_refuse_ended") rfl)
  have me_Writer__tell := He.meth_ok (D.fact 69 (f := .meth "Writer" "_tell") rfl)
  have me_Writer_end := He.meth_ok (D.fact 70 (f := .meth "Writer" "end") rfl)
  have me_Writer_take := He.meth_ok (D.fact 71 (f := .meth "Writer" "take") rfl)
  have T_Writer : ClsT K (He.ga K "Writer") wrN := ⟨cl_Writer, fun f hf => by
    simp only [wrN, List.mem_cons, List.not_mem_nil, or_false] at hf
    rcases hf with rfl | rfl | rfl | rfl | rfl
    · exact na_Writer__taken
    · exact na_Writer__stretch
    · exact na_Writer__plan
    · exact na_Writer__figures
    · exact na_Writer__ended⟩
  have cl_Reader := He.cls_ok (D.fact 72 (f := .cls "Reader") rfl)
  have mk_Reader := He.mkr_ok (D.fact 73 (f := .mkr "Reader") rfl)
  have na_Reader__many := He.noat_ok (D.fact 74 (f := .noat "Reader" "_many") rfl)
  have na_Reader__signs := He.noat_ok (D.fact 75 (f := .noat "Reader" "_signs") rfl)
  have na_Reader__stretch := He.noat_ok (D.fact 76 (f := .noat "Reader" "_stretch") rfl)
  have na_Reader__plan := He.noat_ok (D.fact 77 (f := .noat "Reader" "_plan") rfl)
  have na_Reader__taken := He.noat_ok (D.fact 78 (f := .noat "Reader" "_taken") rfl)
  have na_Reader__inner := He.noat_ok (D.fact 79 (f := .noat "Reader" "_inner") rfl)
  have me_Reader_told := He.meth_ok (D.fact 80 (f := .meth "Reader" "told") rfl)
  have me_Reader_lacking := He.meth_ok (D.fact 81 (f := .meth "Reader" "lacking") rfl)
  have me_Reader__further := He.meth_ok (D.fact 82 (f := .meth "Reader" "_further") rfl)
  have me_Reader_take := He.meth_ok (D.fact 83 (f := .meth "Reader" "take") rfl)
  have T_Reader : ClsT K (He.ga K "Reader") rdN := ⟨cl_Reader, fun f hf => by
    simp only [rdN, List.mem_cons, List.not_mem_nil, or_false] at hf
    rcases hf with rfl | rfl | rfl | rfl | rfl | rfl
    · exact na_Reader__many
    · exact na_Reader__signs
    · exact na_Reader__stretch
    · exact na_Reader__plan
    · exact na_Reader__taken
    · exact na_Reader__inner⟩
  have x_BadPlan : Exn K mg .plan := ⟨(T.raise .plan).1, g_BadPlan, (T.raise .plan).2.1, (T.raise .plan).2.2.1, (T.raise .plan).2.2.2⟩
  have x_BadSign : Exn K mg .sign := ⟨(T.raise .sign).1, g_BadSign, (T.raise .sign).2.1, (T.raise .sign).2.2.1, (T.raise .sign).2.2.2⟩
  have x_BadCount : Exn K mg .count := ⟨(T.raise .count).1, g_BadCount, (T.raise .count).2.1, (T.raise .count).2.2.1, (T.raise .count).2.2.2⟩
  have x_BadFigures : Exn K mg .figures := ⟨(T.raise .figures).1, g_BadFigures, (T.raise .figures).2.1, (T.raise .figures).2.2.1, (T.raise .figures).2.2.2⟩
  have x_Ended : Exn K mg .ended := ⟨(T.raise .ended).1, g_Ended, (T.raise .ended).2.1, (T.raise .ended).2.2.1, (T.raise .ended).2.2.2⟩
  have e := hfa.symm.trans g_law
  cases e
  have b := FunD.bindsA (ps := ["_law_script"]) F_law fun _ _ _ _ _ _ us hl => match us, hl with | [_], _ => rfl
  refine ⟨fd_law, fun s v => b s [v] rfl, fun base _ _ => ?_⟩
  have c_is_whole : Cal PP w K mg base CX0 1 "is_whole" ["value", "least", "most"] (sp_is_whole K) := ⟨He.ga K "is_whole", fd_is_whole, ok_is_whole (F := F_is_whole) (z_type := z_type) (z_int := z_int), g_is_whole, F_is_whole.kp, F_is_whole.bindsN fun _ _ _ _ _ _ us hl => match us, hl with | [_, _, _], _ => rfl⟩
  have c__last_sign : Cal PP w K mg base CX0 1 "_last_sign" ["plan"] (sp_last_sign K) := ⟨He.ga K "_last_sign", fd__last_sign, ok_last_sign (F := F__last_sign) (z_len := z_len), g__last_sign, F__last_sign.kp, F__last_sign.bindsN fun _ _ _ _ _ _ us hl => match us, hl with | [_], _ => rfl⟩
  have c_parted : Cal PP w K mg base CX0 1 "parted" ["stretch", "one"] (sp_parted K) := ⟨He.ga K "parted", fd_parted, ok_parted (F := F_parted), g_parted, F_parted.kp, F_parted.bindsN fun _ _ _ _ _ _ us hl => match us, hl with | [_, _], _ => rfl⟩
  have c_within : Cal PP w K mg base CX0 1 "within" ["one", "other"] (sp_within K) := ⟨He.ga K "within", fd_within, ok_within (F := F_within), g_within, F_within.kp, F_within.bindsN fun _ _ _ _ _ _ us hl => match us, hl with | [_, _], _ => rfl⟩
  have c_lengthened : Cal PP w K mg base CX0 1 "lengthened" ["stretch", "figures"] (sp_lengthened K) := ⟨He.ga K "lengthened", fd_lengthened, ok_lengthened (F := F_lengthened), g_lengthened, F_lengthened.kp, F_lengthened.bindsN fun _ _ _ _ _ _ us hl => match us, hl with | [_, _], _ => rfl⟩
  have c__fewest : Cal PP w K mg base CX0 1 "_fewest" ["stretch"] (sp_fewest K) := ⟨He.ga K "_fewest", fd__fewest, ok_fewest (F := F__fewest), g__fewest, F__fewest.kp, F__fewest.bindsN fun _ _ _ _ _ _ us hl => match us, hl with | [_], _ => rfl⟩
  have c__first_number : Cal PP w K mg base CX0 1 "_first_number" ["stretch", "many"] (sp_first K) := ⟨He.ga K "_first_number", fd__first_number, ok_first (F := F__first_number), g__first_number, F__first_number.kp, F__first_number.bindsN fun _ _ _ _ _ _ us hl => match us, hl with | [_, _], _ => rfl⟩
  have c__by_twos : Cal PP w K mg base CX0 1 "_by_twos" ["number", "many"] (sp_by_twos K) := ⟨He.ga K "_by_twos", fd__by_twos, ok_by_twos (F := F__by_twos) (z_range := z_range) (z_reversed := z_reversed), g__by_twos, F__by_twos.kp, F__by_twos.bindsN fun _ _ _ _ _ _ us hl => match us, hl with | [_, _], _ => rfl⟩
  have c_Writer_told : MCal PP w K mg base CX0 (He.ga K "Writer") 1 "told" ["self"] (sp_wtold K) := ⟨He.ma K (He.ga K "Writer") "told", fd_Writer_told, ok_wtold (F := F_Writer_told) (T_Writer := T_Writer) (z_list := z_list), me_Writer_told, F_Writer_told.bindsN fun _ _ _ _ _ _ us hl => match us, hl with | [_], _ => rfl⟩
  have c_Writer__refuse_ended : MCal PP w K mg base (L2N.CX PP w) (He.ga K "Writer") 1 "_refuse_ended" ["self"] (sp_refuse_ended K) := ⟨He.ma K (He.ga K "Writer") "_refuse_ended", fd_Writer__refuse_ended, ok_refuse_ended (F := F_Writer__refuse_ended) (T_Writer := T_Writer) (x_Ended := x_Ended), me_Writer__refuse_ended, F_Writer__refuse_ended.bindsN fun _ _ _ _ _ _ us hl => match us, hl with | [_], _ => rfl⟩
  have c_Writer__tell : MCal PP w K mg base CX0 (He.ga K "Writer") 1 "_tell" ["self", "figures"] (sp_wtell K) := ⟨He.ma K (He.ga K "Writer") "_tell", fd_Writer__tell, ok_wtell (F := F_Writer__tell) (T_Writer := T_Writer) (z_len := z_len), me_Writer__tell, F_Writer__tell.bindsN fun _ _ _ _ _ _ us hl => match us, hl with | [_, _], _ => rfl⟩
  have c_Reader_told : MCal PP w K mg base CX0 (He.ga K "Reader") 1 "told" ["self"] (sp_rtold K) := ⟨He.ma K (He.ga K "Reader") "told", fd_Reader_told, ok_rtold (F := F_Reader_told) (T_Reader := T_Reader) (z_list := z_list), me_Reader_told, F_Reader_told.bindsN fun _ _ _ _ _ _ us hl => match us, hl with | [_], _ => rfl⟩
  have c_Reader_lacking : MCal PP w K mg base CX0 (He.ga K "Reader") 1 "lacking" ["self"] (sp_lacking K) := ⟨He.ma K (He.ga K "Reader") "lacking", fd_Reader_lacking, ok_lacking (F := F_Reader_lacking) (T_Reader := T_Reader) (z_len := z_len), me_Reader_lacking, F_Reader_lacking.bindsN fun _ _ _ _ _ _ us hl => match us, hl with | [_], _ => rfl⟩
  have c__law_cell_at : Cal PP w K mg base CX0 1 "_law_cell_at" ["_law_script", "_law_k"] (sp_cell_at K) := ⟨He.ga K "_law_cell_at", fd__law_cell_at, ok_cell_at (F := F__law_cell_at) (z_len := z_len), g__law_cell_at, F__law_cell_at.kp, F__law_cell_at.bindsN fun _ _ _ _ _ _ us hl => match us, hl with | [_, _], _ => rfl⟩
  have c__law_mixed : Cal PP w K mg base CX0 1 "_law_mixed" ["_law_cell", "_law_k"] (sp_mixed) := ⟨He.ga K "_law_mixed", fd__law_mixed, ok_mixed (F := F__law_mixed), g__law_mixed, F__law_mixed.kp, F__law_mixed.bindsN fun _ _ _ _ _ _ us hl => match us, hl with | [_, _], _ => rfl⟩
  have c__law_whole : Cal PP w K mg base CX0 1 "_law_whole" ["_law_found"] (sp_whole K) := ⟨He.ga K "_law_whole", fd__law_whole, ok_whole (F := F__law_whole) (z_isinstance := z_isinstance) (z_int := z_int) (z_bool := z_bool), g__law_whole, F__law_whole.kp, F__law_whole.bindsN fun _ _ _ _ _ _ us hl => match us, hl with | [_], _ => rfl⟩
  have c__law_behind : Cal PP w K mg base CX0 1 "_law_behind" ["_law_plan_here", "_law_sign"] (sp_lbehind K) := ⟨He.ga K "_law_behind", fd__law_behind, ok_lbehind (F := F__law_behind) (z_list := z_list) (z_min := z_min) (z_tuple := z_tuple), g__law_behind, F__law_behind.kp, F__law_behind.bindsN fun _ _ _ _ _ _ us hl => match us, hl with | [_, _], _ => rfl⟩
  have c__law_within : Cal PP w K mg base CX0 1 "_law_within" ["_law_one", "_law_other"] (sp_within K) := ⟨He.ga K "_law_within", fd__law_within, ok_lwithin (F := F__law_within), g__law_within, F__law_within.kp, F__law_within.bindsN fun _ _ _ _ _ _ us hl => match us, hl with | [_, _], _ => rfl⟩
  have c_are_whole : Cal PP w K mg base CX0 2 "are_whole" ["values", "least", "most"] (sp_are_whole K) := ⟨He.ga K "are_whole", fd_are_whole, ok_are_whole (F := F_are_whole) (c_is_whole := c_is_whole) (z_all := z_all), g_are_whole, F_are_whole.kp, F_are_whole.bindsN fun _ _ _ _ _ _ us hl => match us, hl with | [_, _, _], _ => rfl⟩
  have c_figures_in : Cal PP w K mg base CX0 2 "figures_in" ["stretch"] (sp_figures_in K) := ⟨He.ga K "figures_in", fd_figures_in, ok_figures_in (F := F_figures_in) (c__fewest := c__fewest) (c__first_number := c__first_number) (c__by_twos := c__by_twos) (c_within := c_within), g_figures_in, F_figures_in.kp, F_figures_in.bindsN fun _ _ _ _ _ _ us hl => match us, hl with | [_], _ => rfl⟩
  have c_figures_around : Cal PP w K mg base CX0 2 "figures_around" ["stretch"] (sp_figures_around K) := ⟨He.ga K "figures_around", fd_figures_around, ok_figures_around (F := F_figures_around) (c__fewest := c__fewest) (c__by_twos := c__by_twos), g_figures_around, F_figures_around.kp, F_figures_around.bindsN fun _ _ _ _ _ _ us hl => match us, hl with | [_], _ => rfl⟩
  have c__need_many : Cal PP w K mg base (L2N.CX PP w) 2 "_need_many" ["many"] (sp_need_many K) := ⟨He.ga K "_need_many", fd__need_many, ok_need_many (F := F__need_many) (c_is_whole := c_is_whole) (x_BadCount := x_BadCount) (g_LONGEST_TEXT := g_LONGEST_TEXT), g__need_many, F__need_many.kp, F__need_many.bindsN fun _ _ _ _ _ _ us hl => match us, hl with | [_], _ => rfl⟩
  have c__law_plan : Cal PP w K mg base CX0 2 "_law_plan" ["_law_cell"] (sp_plan K) := ⟨He.ga K "_law_plan", fd__law_plan, ok_plan (F := F__law_plan) (c__law_mixed := c__law_mixed) (z_range := z_range) (z_len := z_len) (z_tuple := z_tuple), g__law_plan, F__law_plan.kp, F__law_plan.bindsN fun _ _ _ _ _ _ us hl => match us, hl with | [_], _ => rfl⟩
  have c__law_signs : Cal PP w K mg base CX0 2 "_law_signs" ["_law_cell", "_law_plan_here", "_law_most"] (sp_signs K) := ⟨He.ga K "_law_signs", fd__law_signs, ok_signs (F := F__law_signs) (c__law_mixed := c__law_mixed) (z_range := z_range) (z_len := z_len), g__law_signs, F__law_signs.kp, F__law_signs.bindsN fun _ _ _ _ _ _ us hl => match us, hl with | [_, _, _], _ => rfl⟩
  have c__law_stretch : Cal PP w K mg base CX0 2 "_law_stretch" ["_law_plan_here", "_law_signs_here"] (sp_lstretch K) := ⟨He.ga K "_law_stretch", fd__law_stretch, ok_lstretch (F := F__law_stretch) (c__law_behind := c__law_behind) (z_sum := z_sum), g__law_stretch, F__law_stretch.kp, F__law_stretch.bindsN fun _ _ _ _ _ _ us hl => match us, hl with | [_, _], _ => rfl⟩
  have c_is_whole_list : Cal PP w K mg base CX0 3 "is_whole_list" ["values", "longest", "least", "most"] (sp_is_whole_list K) := ⟨He.ga K "is_whole_list", fd_is_whole_list, ok_is_whole_list (F := F_is_whole_list) (c_are_whole := c_are_whole) (z_type := z_type) (z_list := z_list) (z_len := z_len), g_is_whole_list, F_is_whole_list.kp, F_is_whole_list.bindsN fun _ _ _ _ _ _ us hl => match us, hl with | [_, _, _, _], _ => rfl⟩
  have c_need_plan : Cal PP w K mg base (L2N.CX PP w) 3 "need_plan" ["plan"] (sp_need_plan K) := ⟨He.ga K "need_plan", fd_need_plan, ok_need_plan (F := F_need_plan) (c_is_whole := c_is_whole) (c_are_whole := c_are_whole) (x_BadPlan := x_BadPlan) (z_type := z_type) (z_tuple := z_tuple) (z_len := z_len) (g_FEWEST_COUNTS := g_FEWEST_COUNTS) (g_MOST_COUNTS := g_MOST_COUNTS) (g_GREATEST_COUNT := g_GREATEST_COUNT) (g_GREATEST_GAIN := g_GREATEST_GAIN), g_need_plan, F_need_plan.kp, F_need_plan.bindsN fun _ _ _ _ _ _ us hl => match us, hl with | [_], _ => rfl⟩
  have c_Writer_end : MCal PP w K mg base (L2N.CX PP w) (He.ga K "Writer") 3 "end" ["self"] (sp_wend K) := ⟨He.ma K (He.ga K "Writer") "end", fd_Writer_end, ok_wend (F := F_Writer_end) (T_Writer := T_Writer) (c_Writer__refuse_ended := c_Writer__refuse_ended) (c_Writer__tell := c_Writer__tell) (c_figures_in := c_figures_in), me_Writer_end, F_Writer_end.bindsN fun _ _ _ _ _ _ us hl => match us, hl with | [_], _ => rfl⟩
  have c_need_signs : Cal PP w K mg base (L2N.CX PP w) 4 "need_signs" ["plan", "signs"] (sp_need_signs K) := ⟨He.ga K "need_signs", fd_need_signs, ok_need_signs (F := F_need_signs) (c_need_plan := c_need_plan) (c_is_whole_list := c_is_whole_list) (c__last_sign := c__last_sign) (x_BadSign := x_BadSign) (g_LONGEST_TEXT := g_LONGEST_TEXT), g_need_signs, F_need_signs.kp, F_need_signs.bindsN fun _ _ _ _ _ _ us hl => match us, hl with | [_, _], _ => rfl⟩
  have c__need_sign : Cal PP w K mg base (L2N.CX PP w) 4 "_need_sign" ["plan", "sign"] (sp_need_sign K) := ⟨He.ga K "_need_sign", fd__need_sign, ok_need_sign (F := F__need_sign) (c_need_plan := c_need_plan) (c_is_whole := c_is_whole) (c__last_sign := c__last_sign) (x_BadSign := x_BadSign), g__need_sign, F__need_sign.kp, F__need_sign.bindsN fun _ _ _ _ _ _ us hl => match us, hl with | [_, _], _ => rfl⟩
  have c_need_figures : Cal PP w K mg base (L2N.CX PP w) 4 "need_figures" ["figures"] (sp_need_figures K) := ⟨He.ga K "need_figures", fd_need_figures, ok_need_figures (F := F_need_figures) (c_is_whole_list := c_is_whole_list) (x_BadFigures := x_BadFigures) (g_MOST_FIGURES := g_MOST_FIGURES), g_need_figures, F_need_figures.kp, F_need_figures.bindsN fun _ _ _ _ _ _ us hl => match us, hl with | [_], _ => rfl⟩
  have c_Writer___init__ : ICal PP w K mg base (L2N.CX PP w) (He.ga K "Writer") 4 ["self", "plan"] (sp_winit K) := ⟨He.ma K (He.ga K "Writer") "__init__", fd_Writer___init__, ok_winit (F := F_Writer___init__) (T_Writer := T_Writer) (c_need_plan := c_need_plan) (g_WHOLE := g_WHOLE) (t_WHOLE := t_WHOLE), mk_Writer, F_Writer___init__.bindsN fun _ _ _ _ _ _ us hl => match us, hl with | [_, _], _ => rfl⟩
  have c_Reader___init__ : ICal PP w K mg base (L2N.CX PP w) (He.ga K "Reader") 4 ["self", "plan", "many"] (sp_rinit K) := ⟨He.ma K (He.ga K "Reader") "__init__", fd_Reader___init__, ok_rinit (F := F_Reader___init__) (T_Reader := T_Reader) (c_need_plan := c_need_plan) (c__need_many := c__need_many) (g_WHOLE := g_WHOLE) (t_WHOLE := t_WHOLE), mk_Reader, F_Reader___init__.bindsN fun _ _ _ _ _ _ us hl => match us, hl with | [_, _, _], _ => rfl⟩
  have c_share : Cal PP w K mg base (L2N.CX PP w) 5 "share" ["plan", "sign"] (sp_share K) := ⟨He.ga K "share", fd_share, ok_share (F := F_share) (c__need_sign := c__need_sign) (z_sum := z_sum), g_share, F_share.kp, F_share.bindsN fun _ _ _ _ _ _ us hl => match us, hl with | [_, _], _ => rfl⟩
  have c_behind : Cal PP w K mg base (L2N.CX PP w) 5 "behind" ["plan", "sign"] (sp_behind K) := ⟨He.ga K "behind", fd_behind, ok_behind (F := F_behind) (c__need_sign := c__need_sign) (z_min := z_min) (g_GREATEST_COUNT := g_GREATEST_COUNT), g_behind, F_behind.kp, F_behind.bindsN fun _ _ _ _ _ _ us hl => match us, hl with | [_, _], _ => rfl⟩
  have c_stepped : Cal PP w K mg base CX0 6 "stepped" ["stretch", "plan", "sign"] (sp_stepped K) := ⟨He.ga K "stepped", fd_stepped, ok_stepped (F := F_stepped) (c_parted := c_parted) (c_share := c_share) (c_behind := c_behind), g_stepped, F_stepped.kp, F_stepped.bindsN fun _ _ _ _ _ _ us hl => match us, hl with | [_, _, _], _ => rfl⟩
  have c__sign_around : Cal PP w K mg base CX0 6 "_sign_around" ["inner", "stretch", "plan"] (sp_sign_around K) := ⟨He.ga K "_sign_around", fd__sign_around, ok_sign_around (F := F__sign_around) (c_within := c_within) (c_parted := c_parted) (c_share := c_share) (z_len := z_len) (z_range := z_range), g__sign_around, F__sign_around.kp, F__sign_around.bindsN fun _ _ _ _ _ _ us hl => match us, hl with | [_, _, _], _ => rfl⟩
  have c_stretch_of : Cal PP w K mg base (L2N.CX PP w) 7 "stretch_of" ["plan", "signs"] (sp_stretch_of K) := ⟨He.ga K "stretch_of", fd_stretch_of, ok_stretch_of (F := F_stretch_of) (c_need_signs := c_need_signs) (c_stepped := c_stepped) (g_WHOLE := g_WHOLE) (t_WHOLE := t_WHOLE), g_stretch_of, F_stretch_of.kp, F_stretch_of.bindsN fun _ _ _ _ _ _ us hl => match us, hl with | [_, _], _ => rfl⟩
  have c_Writer_take : MCal PP w K mg base (L2N.CX PP w) (He.ga K "Writer") 7 "take" ["self", "signs"] (sp_wtake K) := ⟨He.ma K (He.ga K "Writer") "take", fd_Writer_take, ok_wtake (F := F_Writer_take) (T_Writer := T_Writer) (c_Writer__refuse_ended := c_Writer__refuse_ended) (c_Writer__tell := c_Writer__tell) (c_need_signs := c_need_signs) (c_stepped := c_stepped) (c_figures_around := c_figures_around) (x_BadSign := x_BadSign) (z_len := z_len) (g_LONGEST_TEXT := g_LONGEST_TEXT), me_Writer_take, F_Writer_take.bindsN fun _ _ _ _ _ _ us hl => match us, hl with | [_, _], _ => rfl⟩
  have c_Reader__further : MCal PP w K mg base CX0 (He.ga K "Reader") 7 "_further" ["self"] (sp_further K) := ⟨He.ma K (He.ga K "Reader") "_further", fd_Reader__further, ok_further (F := F_Reader__further) (T_Reader := T_Reader) (c_Reader_lacking := c_Reader_lacking) (c__sign_around := c__sign_around) (c_stepped := c_stepped), me_Reader__further, F_Reader__further.bindsN fun _ _ _ _ _ _ us hl => match us, hl with | [_], _ => rfl⟩
  have c_pressed : Cal PP w K mg base (L2N.CX PP w) 8 "pressed" ["plan", "signs"] (sp_pressed K) := ⟨He.ga K "pressed", fd_pressed, ok_pressed (F := F_pressed) (c_stretch_of := c_stretch_of) (c_figures_in := c_figures_in), g_pressed, F_pressed.kp, F_pressed.bindsN fun _ _ _ _ _ _ us hl => match us, hl with | [_, _], _ => rfl⟩
  have c_Reader_take : MCal PP w K mg base (L2N.CX PP w) (He.ga K "Reader") 8 "take" ["self", "figures"] (sp_rtake K) := ⟨He.ma K (He.ga K "Reader") "take", fd_Reader_take, ok_rtake (F := F_Reader_take) (T_Reader := T_Reader) (c_need_figures := c_need_figures) (c_lengthened := c_lengthened) (c_Reader__further := c_Reader__further) (x_BadFigures := x_BadFigures) (z_len := z_len) (g_MOST_FIGURES := g_MOST_FIGURES), me_Reader_take, F_Reader_take.bindsN fun _ _ _ _ _ _ us hl => match us, hl with | [_, _], _ => rfl⟩
  have c__law_passed : Cal PP w K mg base CX0 9 "_law_passed" ["_law_reader", "_law_waiting", "_law_told", "_law_size"] (sp_passed K) := ⟨He.ga K "_law_passed", fd__law_passed, ok_passed (F := F__law_passed) (T_Reader := T_Reader) (c_Reader_take := c_Reader_take), g__law_passed, F__law_passed.kp, F__law_passed.bindsN fun _ _ _ _ _ _ us hl => match us, hl with | [_, _, _, _], _ => rfl⟩
  exact ok_law (F := F_law) (T_Reader := T_Reader) (T_Writer := T_Writer) (c__law_cell_at := c__law_cell_at) (c__law_plan := c__law_plan) (c__law_signs := c__law_signs) (c__law_mixed := c__law_mixed) (c__law_passed := c__law_passed) (c_pressed := c_pressed) (c_Writer___init__ := c_Writer___init__) (g_Writer := g_Writer) (c_Writer_take := c_Writer_take) (c_Writer_end := c_Writer_end) (c_Writer_told := c_Writer_told) (c_Reader___init__ := c_Reader___init__) (g_Reader := g_Reader) (c_Reader_take := c_Reader_take) (c_Reader_told := c_Reader_told) (c_Reader_lacking := c_Reader_lacking) (z_len := z_len) (z_int := z_int) (z_list := z_list)
end Pl
open PySem PySem.W PySem.Calls PyProof.Rows
set_option maxRecDepth 100000 in
set_option maxHeartbeats 0 in
theorem PySem.Challenge.cw_partline_k10_whole_by_and_by_holds : PySem.Challenge.rw_partline_k10_whole_by_and_by.Holds := by
  w_on; o_law
  refine HandSHeadRun.head_any (r := OpenLaw.row PySem.Challenge.rw_partline_k10_whole_by_and_by) (q := view (OpenLaw.row PySem.Challenge.rw_partline_k10_whole_by_and_by).prog [55]) (H := Pl.hk) (ob := Pl.ob) (M := 30000) (loose := Pl.names) (d := HandSHeadRun.topDef (OpenLaw.row PySem.Challenge.rw_partline_k10_whole_by_and_by).prog 55) (kwd := []) Pl.ob_eq
    (by kernel_rfl) (fun s => by kernel_rfl) Pl.run (by kernel_rfl) (by kernel_rfl) (by kernel_rfl) (by rfl) (by first | assumption | decide +kernel) (by decide +kernel) ⟨rfl, rfl, rfl, rfl, rfl, by decide +kernel⟩ ?hw ?hc
  case hw => w_witness2
  case hc =>
    refine L2.walk_ofE (l := PySem.Challenge.rw_partline_k10_whole_by_and_by) (n := 63) (k := 10) (x := "_law_script") (CX := L2.CX0) rfl (by decide) (by kernel_rfl) ⟨rfl, by decide, by decide⟩ ?F (fun _ _ _ _ z => z)
    intro w mg fa h Y G hmg0
    obtain ⟨K, KX, c⟩ := Y
    have hmg : mg ("law" : PySem.Str) = some (.ref fa) := by
      have e : (HandSHeadRun.topDef (OpenLaw.row PySem.Challenge.rw_partline_k10_whole_by_and_by).prog 55).name = ("law" : PySem.Str) := by kernel_rfl
      rw [← e]
      exact hmg0
    obtain ⟨fd, hb, hF⟩ := Pl.facts (w := w) KX G hmg c
    exact ⟨K, fd, Pl.sp_law K, KX, hb, fun H a ns hl _ hS => ⟨a, ns, rfl, hS, fun _ => rfl⟩, hF⟩
