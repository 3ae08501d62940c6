import PyProof.Rows.All
import Wide.All
import OpenK.AllK
import Wide.FinOn
import PyProof.TypeEq
import HandS.ForExc
import HandS.Comp
import HandS.Defaults
import HandS.Zip
import HandS.IsInst
import HandS.TupAny
import HandS.TupMul
import HandS.Wide
import HandS.ExcIs
import HandS.ExcCtx
import HandS.HotCalls
import HandS.Evl
import HandS.EndBits
import HandS.Head0
import HandS.Head1
import HandS.Head2
import HandS.HeadEnd
import HandS.HeadHook1
import HandS.HeadHook2
import HandS.HeadHook3
import HandS.HeadHook4
import HandS.Text
import PyProof.StrBlock2
import PyProof.Rows.RegStrCode
import KE.DataCmp
import HandS.WideBits
import HandS.RevRange
import HandS.Conv
import KE.KEqDeep
import HandS.Words
import HandS.Dict
import PySem.Challenge.RW_partline_k08_readers
set_option Elab.async false
set_option linter.all false
set_option maxRecDepth 100000
set_option maxHeartbeats 4000000
namespace Pl
open PySem PySem.Spec PyProof.Rows L2

/-! ### data: what stands there, whatever its place -/
mutual
theorem dp_same {K : PySem.W.Frag} {H H' : Hp} (e : Same H H') : ∀ (d : PyData) (v : V), Dp K H v d → Dp K H' v d
  | .none, _, h => by cases h; exact .non
  | .bool b, _, h => by cases h; exact .bl b
  | .int i, _, h => by cases h; exact .int i
  | .str x, _, h => by cases h; exact .str x
  | .list ds, _, h => by
    cases h with
    | lst hs ha => exact .lst (e.seq hs) (dpa_same e ds _ ha)
  | .tuple ds, _, h => by
    cases h with
    | tup hs ha =>
      refine .tup ?_ (dpa_same e ds _ ha)
      rcases hs with (h | ⟨o, h⟩) | h
      · exact .inl (.inl (e _ _ h))
      · exact .inl (.inr ⟨o, e _ _ h⟩)
      · exact .inr h
  | .dict _, _, h => by cases h
theorem dpa_same {K : PySem.W.Frag} {H H' : Hp} (e : Same H H') : ∀ (ds : List PyData) (vs : List V), DpAll K H vs ds → DpAll K H' vs ds
  | [], _, h => by cases h; exact .nil
  | d :: ds, _, h => by
    cases h with
    | cons h1 h2 => exact .cons (dp_same e d _ h1) (dpa_same e ds _ h2)
end
theorem same_t {K : PySem.W.Frag} {H H' : Hp} {a : Addr} {xs : List V} (e : Same H H') (h : SqT K H a xs) : SqT K H' a xs := by
  rcases h with (h | ⟨o, h⟩) | h
  · exact .inl (.inl (e _ _ h))
  · exact .inl (.inr ⟨o, e _ _ h⟩)
  · exact .inr h
theorem same_upd {H : Hp} {p : Addr} {o : HO} (h : H p = none) : Same H (upd H p o) := fun b x e => by
  rw [upd_ne (ne_of_none e h)]
  exact e
theorem same_new {H H' : Hp} {p : Addr} {o : HO} (s : Same H H') (h : H' p = none) : Same H (upd H' p o) := s.trans (same_upd h)
/-- an object that H does not know may change -/
theorem same_mut {H H' : Hp} {p : Addr} {o : HO} (e : Same H H') (h : H p = none) : Same H (upd H' p o) := fun a u ha => by
  rw [upd_ne (ne_of_none ha h)]
  exact e a u ha
theorem dp_int {K : PySem.W.Frag} {H : Hp} {v : V} {i : Int} (h : Dp K H v (.int i)) : v = .int i := by cases h; rfl
theorem dpa_ints {K : PySem.W.Frag} {H : Hp} : ∀ (ns : List Int), DpAll K H (ns.map V.int) (ns.map PyData.int)
  | [] => .nil
  | n :: r => .cons (.int n) (dpa_ints r)
theorem dpa_ints_eq {K : PySem.W.Frag} {H : Hp} : ∀ {vs : List V} {ns : List Int}, DpAll K H vs (ns.map PyData.int) → vs = ns.map V.int
  | _, [], h => by cases h; rfl
  | _, n :: r, h => by
    cases h with
    | cons h1 h2 => rw [dp_int h1, dpa_ints_eq h2]; rfl
theorem dpa_len {K : PySem.W.Frag} {H : Hp} : ∀ {vs : List V} {ds : List PyData}, DpAll K H vs ds → vs.length = ds.length
  | _, [], h => by cases h; rfl
  | _, d :: ds, h => by
    cases h with
    | cons h1 h2 => exact congrArg Nat.succ (dpa_len h2)
theorem dpa_get {K : PySem.W.Frag} {H : Hp} : ∀ {vs : List V} {ds : List PyData} {i : Nat} {d : PyData}, DpAll K H vs ds → ds[i]? = some d → ∃ v, vs[i]? = some v ∧ Dp K H v d
  | _, [], _, _, _, h => by simp at h
  | _, x :: ds, 0, d, h, e => by
    cases h with
    | cons h1 h2 => cases (Option.some.inj e); exact ⟨_, rfl, h1⟩
  | _, x :: ds, i + 1, d, h, e => by
    cases h with
    | cons h1 h2 => exact dpa_get (i := i) h2 e
theorem dpa_app {K : PySem.W.Frag} {H : Hp} : ∀ {vs us : List V} {ds es : List PyData}, DpAll K H vs ds → DpAll K H us es → DpAll K H (vs ++ us) (ds ++ es)
  | _, _, [], _, h, h2 => by cases h; exact h2
  | _, _, d :: ds, _, h, h2 => by
    cases h with
    | cons a b => exact .cons a (dpa_app b h2)

/-! ### type(x), == and != of types -/
def tyName : PyData → String
  | .none => "NoneType"
  | .bool _ => "bool"
  | .int _ => "int"
  | .str _ => "str"
  | .list _ => "list"
  | .tuple _ => "tuple"
  | .dict _ => "dict"
section
variable {X : Cx}
theorem dp_type {pins : List (Addr × Obj)} {σ : L2.St} {H : Hp} {s : Shared} {x : V} {u : Value} {d : PyData} (t : Dp X.K H x d) (I : Inv X pins σ H s) (r : RelV x u) :
    s.TypeIs u (tyName d) ∧ (Value.type (tyName d) == Value.type "builtin_function_or_method") = false := by
  have nb : (Value.type (tyName d) == Value.type "builtin_function_or_method") = false := by
    cases d <;> (simp only [tyName]; decide +kernel)
  refine ⟨?_, nb⟩
  cases t with
  | non => cases (show u = Value.none from r); exact rfl
  | bl b => cases (show u = Value.bool b from r); exact rfl
  | int i =>
    obtain ⟨k, rfl⟩ := (show ∃ t, u = Value.int i t from r)
    exact typeIs_int s i k
  | str z =>
    obtain ⟨k, rfl⟩ := (show ∃ t, u = Value.str z t from r)
    exact typeIs_str s z k
  | lst e _ =>
    cases (show u = Value.ref _ from r)
    obtain ⟨its, rv, p, _⟩ := I.list e
    exact p.isList.typeIs
  | tup e _ =>
    cases (show u = Value.ref _ from r)
    obtain ⟨its, rv, p, _⟩ := I.tuple e
    exact p.typeIs
def rTyD (K : PySem.W.Frag) : List V → Hp → VK → Prop := fun xs H Q => ∃ (x : V) (d : PyData), xs = [x] ∧ Dp K H x d ∧ Q (.ty (tyName d)) H
theorem call_typeD : CallR X (.type "type") (rTyD X.K) := by
  intro pins s σ H xs us Q I r h
  obtain ⟨x, d, rfl, t, q⟩ := h
  obtain ⟨u, rfl, rx⟩ := vals1 r
  obtain ⟨h1, h2⟩ := dp_type t I rx
  exact call_type_of h1 h2 ⟨.ty (tyName d), H, I, rfl, q⟩
def tyNames : List String := ["NoneType", "bool", "int", "str", "list", "tuple", "dict"]
theorem meta_of {n : String} (h : n ∈ tyNames) (s' : Shared) : s'.TypeIs (.type n) "type" := by
  simp only [tyNames, List.mem_cons, List.not_mem_nil, or_false] at h
  rcases h with rfl | rfl | rfl | rfl | rfl | rfl | rfl
  · exact TypeEq.meta_NoneType s'
  · exact TypeEq.meta_bool s'
  · exact TypeEq.meta_int s'
  · exact TypeEq.meta_str s'
  · exact TypeEq.meta_list s'
  · exact TypeEq.meta_tuple s'
  · exact TypeEq.meta_dict s'
theorem tyName_mem (d : PyData) : tyName d ∈ tyNames := by
  cases d <;> simp [tyName, tyNames]
def rEqTy : R2 := fun x y H Q => ∃ a b, x = .ty a ∧ y = .ty b ∧ a ∈ tyNames ∧ b ∈ tyNames ∧ Q (.bl (decide (a = b))) H
theorem op_eqTy : OpR X (compareOp .Eq) rEqTy := by
  intro pins s σ H x y v u Q I rx ry h
  obtain ⟨a, b, rfl, rfl, ha, hb, q⟩ := h
  cases rx
  cases ry
  by_cases e : a = b
  · subst e
    rw [decide_eq_true rfl] at q
    exact TypeEq.eq_type_same (meta_of ha) ⟨.bl true, H, I, rfl, q⟩
  · rw [decide_eq_false e] at q
    refine TypeEq.eq_type_other (meta_of ha) (meta_of hb) ?_ ⟨.bl false, H, I, rfl, q⟩
    rw [Bool.eq_false_iff]
    intro z
    exact e (Value.type.inj (beq_iff_eq.mp z))
end
/-! ### != of types -/
theorem slot_type_ne : Slot "type" (cmpInfo .NotEq).2.1 "object.__ne__" :=
  .of (owner := "object") (n := "__ne__") (by rw [typeLookup_type, builtinLookup_eq_fast]; kernel_rfl) (by decide +kernel) (by decide +kernel) (by decide +kernel)
    (by first | exact .inl (by decide +kernel) | exact .inr (by decide +kernel)) (by rw [isSubtype_type]; kernel_rfl)
theorem slot_type_ne_refl : Slot "type" (cmpInfo .NotEq).2.2 "object.__ne__" := slot_type_ne
section
variable {prog : Program} {w : World} {A : Around} {E : Value → Shared → Prop} {s : Shared} {Q : Value → Shared → Prop}
theorem call_type_ne {X Y : String} (hX : ∀ s' : Shared, s'.TypeIs (.type X) "type") {r : Value} (hr : r = if (Value.type X == Value.type Y) then .bool false else .notImplemented) (h : Q r s) :
    wpAny (model prog w) A (call (.builtin "object.__ne__") [.type X, .type Y]) Q E s := by
  refine wpAny_call (codeAny_call_builtin slot_type_ne.plain PySem.F.cmpEntry_ne (slot_type_ne.check _ _ _ _ _ _ _ _ (hX s) (PySem.F.cmpArgs_ne _ _) ?_))
  unfold Builtin.«object.__ne__»
  refine wpAny_bind (wpAny_of_eq (a := ((Value.type X : Value), [Value.type Y])) (by first | rfl | (simp only [slotArgs]; rfl)) ?_)
  refine wpAny_bind (wpAny_cRoomFor_or (.inl rfl) ?_)
  refine wpAny_bind (wpAny_callSpecialIfBound?_slot (hX s) TypeEq.slot_type_eq ?_)
  cases e : (Value.type X == Value.type Y) with
  | true =>
    rw [e] at hr
    subst hr
    refine call_gives TypeEq.slot_type_eq (hX s) F.entry_object_eq (F.args_object_eq_2 _ _) (TypeEq.object_eq_same rfl e) ?_
    show wpAny _ _ (truthy (.bool true) >>= _) _ _ _
    exact wpAny_bind (wpAny_truthy_bool (wpAny_pure h))
  | false =>
    rw [e] at hr
    subst hr
    refine call_gives TypeEq.slot_type_eq (hX s) F.entry_object_eq (F.args_object_eq_2 _ _) (TypeEq.object_eq_other rfl e) ?_
    exact wpAny_pure h
theorem ne_type {X Y : String} (hX : ∀ s' : Shared, s'.TypeIs (.type X) "type") (hY : ∀ s' : Shared, s'.TypeIs (.type Y) "type") (h : Q (.bool (!(Value.type X == Value.type Y))) s) : wpAny (model prog w) A (compareOp .NotEq (.type X) (.type Y)) Q E s := by
  show wpAny _ A (richCompare .NotEq _ _) Q E s
  cases e : (Value.type X == Value.type Y) with
  | true =>
    rw [e] at h
    exact wpAny_richCompare_same (T := "type") (hX s) (hY s) slot_type_ne (call_type_ne hX (by rw [e]; rfl) ⟨(fun z => by cases z), h⟩)
  | false =>
    rw [e] at h
    have e' : (Value.type Y == Value.type X) = false := by
      rw [Bool.eq_false_iff] at e ⊢
      intro z
      exact e (by rw [beq_iff_eq] at z ⊢; exact z.symm)
    rcases hi : cmpInfo CmpOp.NotEq with ⟨sym, f, r⟩
    have h1 := slot_type_ne
    have h2 := slot_type_ne_refl
    rw [hi] at h1 h2
    simp only [richCompare, hi, (hX s).oneThing_none]
    try with_reducible refine wpAny_holding ?_
    refine wpAny_bind (wpAny_cRoomFor_or (.inl rfl) ?_)
    refine wpAny_bind (wpAny_typeOf (hX s) (wpAny_bind (wpAny_typeOf (hY s) ?_)))
    simp only [bne_self_eq_false, Bool.false_eq_true, if_false, pure_bind, Bool.not_false, if_true]
    refine wpAny_bind (m := tryCompare _ _ _) (wpAny_tryCompare_declines (hX s) h1 (call_type_ne hX (by rw [e]; rfl) ⟨rfl, ?_⟩))
    refine wpAny_bind (m := tryCompare _ _ _) (wpAny_tryCompare_declines (hY s) h2 (call_type_ne hY (by rw [e']; rfl) ⟨rfl, ?_⟩))
    refine wpAny_bind (wpAny_rule (wpAny_bind (wpAny_of_eq (isSame_plain rfl) (wpAny_pure ?_))))
    rw [e]
    exact h
end
section
variable {X : Cx}
def rNeTy : R2 := fun x y H Q => ∃ a b, x = .ty a ∧ y = .ty b ∧ a ∈ tyNames ∧ b ∈ tyNames ∧ Q (.bl (!decide (a = b))) H
theorem op_neTy : OpR X (compareOp .NotEq) rNeTy := by
  intro pins s σ H x y v u Q I rx ry h
  obtain ⟨a, b, rfl, rfl, ha, hb, q⟩ := h
  cases rx
  cases ry
  refine ne_type (meta_of ha) (meta_of hb) ⟨.bl (!decide (a = b)), H, I, ?_, q⟩
  show Value.bool _ = Value.bool _
  congr 2
  by_cases e : a = b
  · subst e; rw [decide_eq_true rfl, beq_self_eq_true]
  · rw [decide_eq_false e, Bool.eq_false_iff]
    intro z
    exact e (Value.type.inj (beq_iff_eq.mp z))
/-! ### sum of a tuple of ints -/
theorem sum_tup_raw {prog : Program} {w : World} {A : Around} {E : Value → Shared → Prop} {s : Shared} {l : Addr} {its : List Value} {ns : List Int} {Q : Value → Shared → Prop} (hh : A.handled = none) (hl : IsTup s.heap l its.toArray) (hi : IntsAre its ns)
    (h : ∀ h' tk t', (∀ b o, s.heap.get? b = some o → h'.get? b = some o) → Q (.int ns.sum t') { s with heap := h', toks := tk }) : wpAny (model prog w) A (call (.builtin "sum") [.ref l]) Q E s := by
  obtain ⟨xs, e⟩ := hi.allInts.items
  have hn : numsOf (intItems xs).toList = ns := by rw [← e]; exact hi.numsOf
  rw [nums_intItems] at hn
  rw [e] at hl
  have hl2 : s.heap.IsTuple l (intItems xs) := hl
  have hlt : l < s.heap.objs.size := by obtain ⟨_, e, _⟩ := hl2; exact Heap.lt_size e
  have hne : l ≠ s.heap.objs.size := Nat.ne_of_lt hlt
  refine call_sum_walkG (wpAny_pyIter_tuple hl2 ?_)
  refine ⟨_, [s.heap.objs.size, l], [s.heap.objs.size], _, _, _, numAt xs, rfl, Walks.tuple (A := A.in1) hh _ l hne (intItems xs), ⟨⟨_, Heap.get?_push_size _ rfl, rfl, rfl⟩, hl2.push _⟩, (fun b hb => ?_), (fun _ _ => intItems_at), fun h' tk t' hk => ?_⟩
  · show b < (s.heap.push _).objs.size
    rw [Heap.size_push]
    rcases List.mem_cons.mp hb with rfl | hb
    · exact Nat.lt_succ_self _
    · rcases List.mem_cons.mp hb with rfl | hb
      · exact Nat.lt_succ_of_lt hlt
      · cases hb
  · have := h h' tk t' (fun b o q => hk b o (by simp only [List.mem_singleton]; exact Nat.ne_of_lt (Heap.lt_size q)) (Heap.get?_push_of_some _ q))
    have e2 : ns.sum = preSum (numAt xs) (intItems xs).size := by
      rw [show (intItems xs).size = xs.size by simp [intItems], preSum_eq, List.take_of_length_le (by simp), hn]
    rw [← e2]
    exact this
def rSumT (K : PySem.W.Frag) : List V → Hp → VK → Prop := fun vs H Q => ∃ (a : Addr) (ns : List Int), vs = [V.ref a] ∧ SqT K H a (ns.map V.int) ∧ Q (.int ns.sum) H
theorem cr_sumT (hc : X.calm = true) : CallR X (.builtin "sum") (rSumT X.K) := by
  intro pins s σ H vs us Q I r h
  obtain ⟨a, ns, rfl, hs, q⟩ := h
  obtain ⟨its, rv, hl, _⟩ := I.tuple hs
  rw [Vals.ref1 r]
  exact sum_tup_raw (I.ok.hd hc) hl rv.ints fun h' tk t' hk => ⟨.int _, H, I.kept hk, ⟨_, rfl⟩, q⟩
end
end Pl

namespace Pl
open PySem PySem.Spec PyProof.Rows L2
/-! ### a def that keeps its promise, found by its name -/
structure Cal (P : Program) (w : World) (K : PySem.W.Frag) (mg : Str → Option Value) (base : Heap) (CX : CXT) (k : Nat) (x : Str) (ps : List Str) (sp : Sp) : Prop where
  ex : ∃ (f : Addr) (fd : FuncData), FnOk P w K mg base CX k f fd ps sp ∧ mg x = some (.ref f) ∧ PySem.W.keepIn K (.ref f) = true ∧ Binds K fd ps []
section
variable {X : Cx} {CX : CXT} {k : Nat} {x : Str} {ps : List Str} {sp : Sp} {e : Expr} {es : List Expr} {t : TA} {p pos : Pos} {W : WX}
theorem pe_f (C : Cal X.prog X.w X.K X.mg X.base CX0 k x ps sp) (hr : Room k X.A) (ha : PA X (e :: es) t) (hg : Gl X x := by rfl) (hdb : (x == ("__debug__" : Str)) = false := by decide)
    (he : starEach (e :: es) X.env = (false, eval e X.env) :: starEach es X.env := by rfl) (hpl : (backTo pos (starEach es X.env)).any (·.1) = false := by rfl) :
    PE X (.Call (.Name x p) (e :: es) [] pos) (tCall sp [] E0 t) := by
  obtain ⟨f, fd, F, hm, hk, hb⟩ := C.ex
  exact pe_call F hr hg hm hk hb .nil pass0 ha hdb he hpl
/-- a def that may raise, W what is wished of that -/
theorem pe_fX (C : Cal X.prog X.w X.K X.mg X.base (L2N.CX X.prog X.w) k x ps sp) (hr : Room k X.A) (tk : L2N.Takes X W) (ha : PA X (e :: es) t) (hg : Gl X x := by rfl) (hdb : (x == ("__debug__" : Str)) = false := by decide)
    (he : starEach (e :: es) X.env = (false, eval e X.env) :: starEach es X.env := by rfl) (hpl : (backTo pos (starEach es X.env)).any (·.1) = false := by rfl) :
    PE X (.Call (.Name x p) (e :: es) [] pos) (tCallS sp (WE W) t) := by
  obtain ⟨f, fd, F, hm, hk, hb⟩ := C.ex
  exact pe_callS F hr hg hm hk hb (fun σ => L2N.passAt tk σ) ha hdb he hpl
end
/-! ### promises over data -/
/-- vs are such data, and what comes back is the data f tells, nothing that stood is changed -/
def PSp (K : PySem.W.Frag) (pre : List PyData → Prop) (f : List PyData → PyData) : Sp := fun vs H Q _ =>
  ∃ ds, DpAll K H vs ds ∧ pre ds ∧ ∀ v H', Same H H' → Dp K H' v (f ds) → Q v H'
end Pl

namespace Pl
open PySem PySem.Spec PyProof.Rows L2
/-! ### whole numbers, plans, texts: what the refusals ask of any data -/
def toI : PyData → Int
  | .int i => i
  | _ => 0
def isWhole (d : PyData) (lo hi : Int) : Bool := match d with
  | .int i => decide (lo ≤ i) && decide (i ≤ hi)
  | _ => false
def areWhole (ds : List PyData) (lo hi : Int) : Bool := ds.all fun d => isWhole d lo hi
def isWholeList (d : PyData) (n : Nat) (lo hi : Int) : Bool := match d with
  | .list ds => decide (ds.length ≤ n) && areWhole ds lo hi
  | _ => false
def isPlan (d : PyData) : Bool := match d with
  | .tuple ds => (match ds with
    | [c, g] => (match c with
      | .tuple cs => decide (2 ≤ cs.length) && decide (cs.length ≤ 8) && areWhole cs 1 1000000 && isWhole g 0 1000000
      | _ => false)
    | _ => false)
  | _ => false
def planD (cs : List Int) (g : Int) : PyData := .tuple [.tuple (cs.map PyData.int), .int g]
/-- a plan's counts and gain -/
structure Plan (cs : List Int) (g : Int) : Prop where
  two : 2 ≤ cs.length
  eight : cs.length ≤ 8
  pos : ∀ c ∈ cs, 1 ≤ c ∧ c ≤ 1000000
  gain : 0 ≤ g ∧ g ≤ 1000000
theorem isWhole_ok {d : PyData} {lo hi : Int} (h : isWhole d lo hi = true) : ∃ i, d = .int i ∧ lo ≤ i ∧ i ≤ hi := by
  cases d with
  | int i =>
    have h2 : (decide (lo ≤ i) && decide (i ≤ hi)) = true := h
    rw [Bool.and_eq_true, decide_eq_true_eq, decide_eq_true_eq] at h2
    exact ⟨i, rfl, h2.1, h2.2⟩
  | _ => cases h
theorem isWhole_int (i lo hi : Int) : isWhole (.int i) lo hi = (decide (lo ≤ i) && decide (i ≤ hi)) := rfl
theorem areWhole_ok {lo hi : Int} : ∀ {ds : List PyData}, areWhole ds lo hi = true → ∃ ns : List Int, ds = ns.map PyData.int ∧ ∀ n ∈ ns, lo ≤ n ∧ n ≤ hi
  | [], _ => ⟨[], rfl, fun n h => by cases h⟩
  | d :: ds, h => by
    have h2 : (isWhole d lo hi && areWhole ds lo hi) = true := h
    rw [Bool.and_eq_true] at h2
    obtain ⟨i, rfl, a, b⟩ := isWhole_ok h2.1
    obtain ⟨ns, rfl, q⟩ := areWhole_ok h2.2
    exact ⟨i :: ns, rfl, fun n hn => by
      rcases List.mem_cons.mp hn with rfl | hn
      · exact ⟨a, b⟩
      · exact q n hn⟩
theorem areWhole_ints {lo hi : Int} : ∀ {ns : List Int}, (∀ n ∈ ns, lo ≤ n ∧ n ≤ hi) → areWhole (ns.map PyData.int) lo hi = true
  | [], _ => rfl
  | n :: ns, h => by
    have h1 := h n List.mem_cons_self
    show (isWhole (.int n) lo hi && areWhole (ns.map PyData.int) lo hi) = true
    rw [areWhole_ints fun m hm => h m (List.mem_cons_of_mem _ hm), isWhole_int, decide_eq_true h1.1, decide_eq_true h1.2]
    rfl
theorem isPlan_ok {d : PyData} (h : isPlan d = true) : ∃ cs g, d = planD cs g ∧ Plan cs g := by
  unfold isPlan at h
  split at h
  · split at h
    · rename_i c g
      split at h
      · rename_i cs
        simp only [Bool.and_eq_true, decide_eq_true_eq] at h
        obtain ⟨⟨⟨h1, h2⟩, h3⟩, h4⟩ := h
        obtain ⟨ns, rfl, hq⟩ := areWhole_ok h3
        obtain ⟨i, rfl, a, b⟩ := isWhole_ok h4
        rw [List.length_map] at h1 h2
        exact ⟨ns, i, rfl, ⟨h1, h2, hq, ⟨a, b⟩⟩⟩
      · cases h
    · cases h
  · cases h
theorem isPlan_of {cs : List Int} {g : Int} (h : Plan cs g) : isPlan (planD cs g) = true := by
  show (decide (2 ≤ (cs.map PyData.int).length) && decide ((cs.map PyData.int).length ≤ 8) && areWhole (cs.map PyData.int) 1 1000000 && isWhole (.int g) 0 1000000) = true
  rw [areWhole_ints h.pos, isWhole_int, List.length_map, decide_eq_true h.two, decide_eq_true h.eight, decide_eq_true h.gain.1, decide_eq_true h.gain.2]
  rfl
def countsOf (d : PyData) : List Int := match d with
  | .tuple [.tuple cs, _] => cs.map toI
  | _ => []
def itemsOf (d : PyData) : List Int := match d with
  | .list xs => xs.map toI
  | _ => []
def gainOf (d : PyData) : Int := match d with
  | .tuple [_, g] => toI g
  | _ => 0
theorem toI_map (ns : List Int) : (ns.map PyData.int).map toI = ns := by
  rw [List.map_map]
  exact List.map_id'' (fun _ => rfl) ns
theorem counts_planD (cs : List Int) (g : Int) : countsOf (planD cs g) = cs := toI_map cs
theorem gain_planD (cs : List Int) (g : Int) : gainOf (planD cs g) = g := rfl
/-- a text of a plan of n counts -/
def Text (n : Nat) (ss : List Int) : Prop := ss.length ≤ 60 ∧ ∀ s ∈ ss, 0 ≤ s ∧ s ≤ (n : Int) - 1
theorem isText_ok {d : PyData} {n : Nat} (h : isWholeList d 60 0 ((n : Int) - 1) = true) : ∃ ss : List Int, d = .list (ss.map PyData.int) ∧ Text n ss := by
  cases d with
  | list ds =>
    have h2 : (decide (ds.length ≤ 60) && areWhole ds 0 ((n : Int) - 1)) = true := h
    rw [Bool.and_eq_true, decide_eq_true_eq] at h2
    obtain ⟨ns, rfl, q⟩ := areWhole_ok h2.2
    refine ⟨ns, rfl, ?_, q⟩
    simpa using h2.1
  | _ => cases h
theorem isText_of {ss : List Int} {n : Nat} (h : Text n ss) : isWholeList (.list (ss.map PyData.int)) 60 0 ((n : Int) - 1) = true := by
  show (decide ((ss.map PyData.int).length ≤ 60) && areWhole (ss.map PyData.int) 0 ((n : Int) - 1)) = true
  rw [areWhole_ints h.2, List.length_map, decide_eq_true h.1]
  rfl
/-! ### shares, the plan behind a sign -/
def nth (cs : List Int) (s : Int) : Int := cs.getD s.toNat 0
def belowOf (cs : List Int) (s : Int) : Int := (cs.take s.toNat).sum
def grown (cs : List Int) (g s : Int) : List Int := cs.set s.toNat (min (nth cs s + g) 1000000)
theorem grown_len (cs : List Int) (g s : Int) : (grown cs g s).length = cs.length := List.length_set ..
theorem nth_mem {cs : List Int} {s : Int} (h0 : 0 ≤ s) (h1 : s < cs.length) : nth cs s ∈ cs := by
  have h : s.toNat < cs.length := by omega
  unfold nth
  rw [List.getD_eq_getElem?_getD, List.getElem?_eq_getElem h]
  exact List.getElem_mem h
theorem Plan.nth {cs : List Int} {g s : Int} (h : Plan cs g) (h0 : 0 ≤ s) (h1 : s < cs.length) : 1 ≤ nth cs s ∧ nth cs s ≤ 1000000 := h.pos _ (nth_mem h0 h1)
theorem Plan.grown {cs : List Int} {g s : Int} (h : Plan cs g) (h0 : 0 ≤ s) (h1 : s < cs.length) : Plan (grown cs g s) g := by
  refine ⟨by rw [grown_len]; exact h.two, by rw [grown_len]; exact h.eight, fun c hc => ?_, h.gain⟩
  rcases List.mem_or_eq_of_mem_set hc with hc | rfl
  · exact h.pos c hc
  · have := h.nth h0 h1
    have := h.gain
    omega
/-! ### errors, promises that may raise -/
inductive Err where
  | plan | sign | count | figures | ended
  deriving DecidableEq
def errN : Err → Str
  | .plan => "BadPlan"
  | .sign => "BadSign"
  | .count => "BadCount"
  | .figures => "BadFigures"
  | .ended => "Ended"
def errC (K : PySem.W.Frag) (e : Err) : Addr := He.ga K (errN e)
/-- what is told of an own error class of the top -/
structure Exn (K : PySem.W.Frag) (mg : Str → Option Value) (e : Err) : Prop where
  x : PySem.W.excIn K (errC K e) He.veBase "ValueError.__new__" = true
  g : mg (errN e) = some (.ref (errC K e))
  k : PySem.W.keepIn K (.ref (errC K e)) = true
  b : PySem.W.subIn K (.ref (errC K e)) (.type "BaseException") = some true
  t : PySem.W.typeIn K (.ref (errC K e)) = some (.type "type")
/-- may raise: f tells what comes back of such data, or which error -/
def PSpX (K : PySem.W.Frag) (n : Nat) (f : List PyData → Except Err PyData) : Sp := fun vs H Q E =>
  ∃ ds, DpAll K H vs ds ∧ ds.length = n ∧ (∀ d, f ds = .ok d → ∀ v H', Same H H' → Dp K H' v d → Q v H') ∧ (∀ e, f ds = .error e → ∀ H', Same H H' → E (.ref (errC K e)) none H')
/-- a statement's end, where the reading stops -/
def Hold (u : TS) : TS := u
theorem pss_hold {X : Cx} {st : Stmt} {rest : List Stmt} {t u : TS} (h1 : PS X st t) (h2 : PSs X rest u) : PSs X (st :: rest) (tSeq t (Hold u)) := pss_cons h1 h2
theorem cmul_l {i j : Int} (h : -(2 ^ 64) < i ∧ i < 2 ^ 64) : CMul i j := .inl h
theorem cmul_r {i j : Int} (h : -(2 ^ 64) < j ∧ j < 2 ^ 64) : CMul i j := .inr h
theorem hu2_of {A : Around} {k : Nat} (hr : Room k A) : A.units + 64 < cLine := Nat.lt_of_le_of_lt (by omega) hr.un
end Pl

namespace Pl
open PySem PySem.Spec PyProof.Rows L2

/-- all but D -/
def erase (D : Addr) (H : Hp) : Hp := fun a => if a = D then none else H a
theorem erase_same (D : Addr) (H : Hp) : Same (erase D H) H := fun b o e => by
  unfold erase at e
  split at e
  · cases e
  · exact e
theorem erase_at {D a : Addr} {H : Hp} (h : a ≠ D) : erase D H a = H a := if_neg h
theorem erase_self {D : Addr} {H : Hp} : erase D H D = none := if_pos rfl
theorem erase_upd {D : Addr} {H : Hp} {o : HO} : erase D (upd H D o) = erase D H := funext fun a => by
  unfold erase
  split
  · rfl
  · rename_i h; exact upd_ne h
theorem same_erase {D : Addr} {H H' : Hp} (s : Same H H') (h : H D = none) : Same H (erase D H') := fun b o e => by
  rw [erase_at (ne_of_none e h)]
  exact s b o e
theorem erase_mono {D : Addr} {H H' : Hp} (s : Same H H') : Same (erase D H) (erase D H') := fun b o e => by
  unfold erase at e ⊢
  split at e
  · cases e
  · rename_i h; rw [if_neg h]; exact s b o e
theorem same_noerase {D : Addr} {H H' : Hp} (s : Same H (erase D H')) : Same H H' := s.trans (erase_same D H')

theorem lc_dpL {K : PySem.W.Frag} {a : Addr} {xs : List V} {tl : TE} {j : Nat} {σ : L2.St} {H : Hp} {Q : VK} {te : TE} {tt : TT} (keep : Nat → Bool) (g : Nat → PyData) (hi : ∀ R : VK, R (.ref a) H → tl σ H R) (hs : SqL K H a xs) (hz : xs.length ≤ 100000)
    (ht : ∀ n x H' (R : Bool → Hp → Prop), xs[n]? = some x → Same H H' → (∀ H'', Same H' H'' → R (keep n) H'') → tt ((wipe σ [j]).set j (some x)) H' R)
    (he : ∀ n x H' D (R : VK), xs[n]? = some x → keep n = true → H D = none → (∃ acc, H' D = some (.lst acc)) → Same H H' → (∀ y H'', Same H' H'' → Dp K (erase D H'') y (g n) → R y H'') → te ((wipe σ [j]).set j (some x)) H' R)
    (hd : ∀ D acc H', H D = none → Same H H' → H' D = some (.lst acc) → DpAll K H' acc (((List.range xs.length).filter keep).map g) → Q (.ref D) H') :
    tLc (iList K tl) (gName j) tt te [j] σ H Q := by
  have hw : ∀ x, wipe ((wipe σ [j]).set j (some x)) [j] = wipe σ [j] := fun x => by
    show ((σ.set j none).set j (some x)).set j none = σ.set j none
    rw [List.set_set, List.set_set]
  show tl σ H _
  refine hi _ ⟨a, rfl, ⟨xs, hs⟩, ?_⟩
  intro D hD
  refine L2.lc_list (K := K) (a := a) (xs := xs) (fun i H' => ∃ acc, H' D = some (.lst acc) ∧ Same H (erase D H') ∧ acc.length ≤ i ∧ DpAll K (erase D H') acc (((List.range i).filter keep).map g)) ?_ (fun i H' _ ⟨acc, _, sm, _⟩ => (same_noerase sm).seq hs) ?_ ?_
  · refine ⟨[], upd_same, same_erase (same_upd hD) hD, Nat.le_refl _, .nil⟩
  · rintro n x H' hi2 ⟨acc, e, sm, hlen, dp⟩
    show wipe ((wipe σ [j]).set j (some x)) [j] = wipe σ [j] ∧ tt _ _ _
    refine ⟨hw _, ht n x H' _ hi2 (same_noerase sm) fun H2 s2 => ?_⟩
    have e2 := s2 D _ e
    have sm2 : Same H (erase D H2) := sm.trans (erase_mono s2)
    have dp2 := dpa_same (erase_mono (D := D) s2) _ _ dp
    cases kp : keep n with
    | false =>
      refine iteF ⟨acc, e2, sm2, Nat.le_succ_of_le hlen, ?_⟩
      rw [List.range_succ, List.filter_append, List.filter_cons, kp]
      simpa using dp2
    | true =>
      refine iteT ?_
      refine he n x H2 D _ hi2 kp hD ⟨acc, e2⟩ (same_noerase sm2) fun y H3 s3 hy => ?_
      have e3 := s3 D _ e2
      refine ⟨acc, e3, Nat.lt_of_le_of_lt hlen (Nat.lt_of_lt_of_le (show n < 100001 by have := (List.getElem?_eq_some_iff.mp hi2).1; omega) (by decide)), acc ++ [y], upd_same, ?_, ?_, ?_⟩
      · rw [erase_upd]
        exact sm2.trans (erase_mono s3)
      · rw [List.length_append]
        exact Nat.succ_le_succ hlen
      · rw [erase_upd, List.range_succ, List.filter_append, List.filter_cons, kp, List.map_append]
        exact dpa_app (dpa_same (erase_mono s3) _ _ dp2) (.cons hy .nil)
  · rintro H' ⟨acc, e, sm, hlen, dp⟩
    exact hd D acc H' hD (same_noerase sm) e (dpa_same (erase_same D H') _ _ dp)

theorem lc_dpT {K : PySem.W.Frag} {a : Addr} {xs : List V} {tl : TE} {j : Nat} {σ : L2.St} {H : Hp} {Q : VK} {te : TE} {tt : TT} (keep : Nat → Bool) (g : Nat → PyData) (hi : ∀ R : VK, R (.ref a) H → tl σ H R) (hs : SqT K H a xs) (hz : xs.length ≤ 100000)
    (ht : ∀ n x H' (R : Bool → Hp → Prop), xs[n]? = some x → Same H H' → (∀ H'', Same H' H'' → R (keep n) H'') → tt ((wipe σ [j]).set j (some x)) H' R)
    (he : ∀ n x H' D (R : VK), xs[n]? = some x → keep n = true → H D = none → (∃ acc, H' D = some (.lst acc)) → Same H H' → (∀ y H'', Same H' H'' → Dp K (erase D H'') y (g n) → R y H'') → te ((wipe σ [j]).set j (some x)) H' R)
    (hd : ∀ D acc H', H D = none → Same H H' → H' D = some (.lst acc) → DpAll K H' acc (((List.range xs.length).filter keep).map g) → Q (.ref D) H') :
    tLc (iTup K tl) (gName j) tt te [j] σ H Q := by
  have hw : ∀ x, wipe ((wipe σ [j]).set j (some x)) [j] = wipe σ [j] := fun x => by
    show ((σ.set j none).set j (some x)).set j none = σ.set j none
    rw [List.set_set, List.set_set]
  show tl σ H _
  refine hi _ ⟨a, rfl, ⟨xs, hs⟩, ?_⟩
  intro D hD
  refine L2.lc_tup (K := K) (a := a) (xs := xs) (fun i H' => ∃ acc, H' D = some (.lst acc) ∧ Same H (erase D H') ∧ acc.length ≤ i ∧ DpAll K (erase D H') acc (((List.range i).filter keep).map g)) ?_ (fun i H' _ ⟨acc, _, sm, _⟩ => same_t (same_noerase sm) hs) ?_ ?_
  · refine ⟨[], upd_same, same_erase (same_upd hD) hD, Nat.le_refl _, .nil⟩
  · rintro n x H' hi2 ⟨acc, e, sm, hlen, dp⟩
    show wipe ((wipe σ [j]).set j (some x)) [j] = wipe σ [j] ∧ tt _ _ _
    refine ⟨hw _, ht n x H' _ hi2 (same_noerase sm) fun H2 s2 => ?_⟩
    have e2 := s2 D _ e
    have sm2 : Same H (erase D H2) := sm.trans (erase_mono s2)
    have dp2 := dpa_same (erase_mono (D := D) s2) _ _ dp
    cases kp : keep n with
    | false =>
      refine iteF ⟨acc, e2, sm2, Nat.le_succ_of_le hlen, ?_⟩
      rw [List.range_succ, List.filter_append, List.filter_cons, kp]
      simpa using dp2
    | true =>
      refine iteT ?_
      refine he n x H2 D _ hi2 kp hD ⟨acc, e2⟩ (same_noerase sm2) fun y H3 s3 hy => ?_
      have e3 := s3 D _ e2
      refine ⟨acc, e3, Nat.lt_of_le_of_lt hlen (Nat.lt_of_lt_of_le (show n < 100001 by have := (List.getElem?_eq_some_iff.mp hi2).1; omega) (by decide)), acc ++ [y], upd_same, ?_, ?_, ?_⟩
      · rw [erase_upd]
        exact sm2.trans (erase_mono s3)
      · rw [List.length_append]
        exact Nat.succ_le_succ hlen
      · rw [erase_upd, List.range_succ, List.filter_append, List.filter_cons, kp, List.map_append]
        exact dpa_app (dpa_same (erase_mono s3) _ _ dp2) (.cons hy .nil)
  · rintro H' ⟨acc, e, sm, hlen, dp⟩
    exact hd D acc H' hD (same_noerase sm) e (dpa_same (erase_same D H') _ _ dp)

theorem lc_dpR {K : PySem.W.Frag} {m : Nat} {ta : TA} {j : Nat} {σ : L2.St} {H : Hp} {Q : VK} {te : TE} {tt : TT} (keep : Nat → Bool) (g : Nat → PyData) (hi : ∀ R : List V → Hp → Prop, R [.int (m : Int)] H → ta σ H R) (hz : m ≤ 100000)
    (ht : ∀ n H' (R : Bool → Hp → Prop), n < m → Same H H' → (∀ H'', Same H' H'' → R (keep n) H'') → tt ((wipe σ [j]).set j (some (.int (n : Int)))) H' R)
    (he : ∀ n H' D (R : VK), n < m → keep n = true → H D = none → (∃ acc, H' D = some (.lst acc)) → Same H H' → (∀ y H'', Same H' H'' → Dp K (erase D H'') y (g n) → R y H'') → te ((wipe σ [j]).set j (some (.int (n : Int)))) H' R)
    (hd : ∀ D acc H', H D = none → Same H H' → H' D = some (.lst acc) → DpAll K H' acc (((List.range m).filter keep).map g) → Q (.ref D) H') :
    tLc (iRng1 ta) (gName j) tt te [j] σ H Q := by
  have hw : ∀ x, wipe ((wipe σ [j]).set j (some x)) [j] = wipe σ [j] := fun x => by
    show ((σ.set j none).set j (some x)).set j none = σ.set j none
    rw [List.set_set, List.set_set]
  show ta σ H _
  refine hi _ ⟨(m : Int), rfl, by omega, by omega, ?_⟩
  rw [Int.toNat_natCast]
  intro D hD
  refine L2.lc_range (lo := 0) (n := m) (fun i H' => ∃ acc, H' D = some (.lst acc) ∧ Same H (erase D H') ∧ acc.length ≤ i ∧ DpAll K (erase D H') acc (((List.range i).filter keep).map g)) ?_  ?_ ?_
  · refine ⟨[], upd_same, same_erase (same_upd hD) hD, Nat.le_refl _, .nil⟩
  · rintro n H' hi2 ⟨acc, e, sm, hlen, dp⟩
    rw [Int.zero_add]
    show wipe ((wipe σ [j]).set j (some (.int (n : Int)))) [j] = wipe σ [j] ∧ tt _ _ _
    refine ⟨hw _, ht n  H' _ hi2 (same_noerase sm) fun H2 s2 => ?_⟩
    have e2 := s2 D _ e
    have sm2 : Same H (erase D H2) := sm.trans (erase_mono s2)
    have dp2 := dpa_same (erase_mono (D := D) s2) _ _ dp
    cases kp : keep n with
    | false =>
      refine iteF ⟨acc, e2, sm2, Nat.le_succ_of_le hlen, ?_⟩
      rw [List.range_succ, List.filter_append, List.filter_cons, kp]
      simpa using dp2
    | true =>
      refine iteT ?_
      refine he n  H2 D _ hi2 kp hD ⟨acc, e2⟩ (same_noerase sm2) fun y H3 s3 hy => ?_
      have e3 := s3 D _ e2
      refine ⟨acc, e3, Nat.lt_of_le_of_lt hlen (Nat.lt_of_lt_of_le (show n < 100001 by omega) (by decide)), acc ++ [y], upd_same, ?_, ?_, ?_⟩
      · rw [erase_upd]
        exact sm2.trans (erase_mono s3)
      · rw [List.length_append]
        exact Nat.succ_le_succ hlen
      · rw [erase_upd, List.range_succ, List.filter_append, List.filter_cons, kp, List.map_append]
        exact dpa_app (dpa_same (erase_mono s3) _ _ dp2) (.cons hy .nil)
  · rintro H' ⟨acc, e, sm, hlen, dp⟩
    exact hd D acc H' hD (same_noerase sm) e (dpa_same (erase_same D H') _ _ dp)
theorem filter_yes {α : Type} (l : List α) : l.filter (fun _ => true) = l := List.filter_eq_self.mpr fun _ _ => rfl
theorem yes_t {σ : L2.St} {H : Hp} {R : Bool → Hp → Prop} (k : ∀ H'', Same H H'' → R true H'') : tYes σ H R := k H (Same.refl H)
theorem range_get {α β : Type} (l : List α) (f : α → β) (d : α) : (List.range l.length).map (fun n => f (l.getD n d)) = l.map f := by
  refine List.ext_getElem? fun i => ?_
  rw [List.getElem?_map, List.getElem?_map]
  by_cases h : i < l.length
  · rw [List.getElem?_range h, List.getElem?_eq_getElem h]
    simp [List.getD_eq_getElem?_getD, List.getElem?_eq_getElem h]
  · rw [List.getElem?_eq_none (by simpa using h), List.getElem?_eq_none (by simpa using h)]
    rfl
theorem getD_of {α : Type} {l : List α} {n : Nat} {x d : α} (h : l[n]? = some x) : l.getD n d = x := by
  rw [List.getD_eq_getElem?_getD, h]; rfl
theorem dpa_bools {K : PySem.W.Frag} {H : Hp} : ∀ {vs : List V} {bs : List Bool}, DpAll K H vs (bs.map PyData.bool) → vs = bs.map V.bl
  | _, [], h => by cases h; rfl
  | _, b :: r, h => by
    cases h with
    | cons h1 h2 => cases h1; rw [dpa_bools h2]; rfl
theorem dpa_get2 {K : PySem.W.Frag} {H : Hp} {vs : List V} {ds : List PyData} {i : Nat} {v : V} (h : DpAll K H vs ds) (e : vs[i]? = some v) : ∃ d, ds[i]? = some d ∧ Dp K H v d := by
  have hl := dpa_len h
  obtain ⟨hi, _⟩ := List.getElem?_eq_some_iff.mp e
  have hd : ds[i]? = some (ds[i]'(by omega)) := List.getElem?_eq_getElem (by omega)
  obtain ⟨v', e', hv⟩ := dpa_get h hd
  rw [e] at e'
  cases e'
  exact ⟨_, hd, hv⟩
/-- a plan as it stands in the heap -/
theorem plan_at {K : PySem.W.Frag} {H : Hp} {v : V} {cs : List Int} {g : Int} (h : Dp K H v (planD cs g)) : ∃ a c, v = .ref a ∧ SqT K H a [.ref c, .int g] ∧ SqT K H c (cs.map V.int) := by
  cases h with
  | tup hs ha =>
    cases ha with
    | cons h1 h2 =>
      cases h2 with
      | cons h2 h3 =>
        cases h3
        cases dp_int h2
        cases h1 with
        | tup hc hcs =>
          rw [dpa_ints_eq hcs] at hc
          exact ⟨_, _, rfl, hs, hc⟩
theorem plan_dp {K : PySem.W.Frag} {H : Hp} {a c : Addr} {cs : List Int} {g : Int} (h1 : SqT K H a [.ref c, .int g]) (h2 : SqT K H c (cs.map V.int)) : Dp K H (.ref a) (planD cs g) :=
  .tup h1 (.cons (.tup h2 (dpa_ints cs)) (.cons (.int g) .nil))
theorem at_nth {cs : List Int} {s : Int} (h0 : 0 ≤ s) (h1 : s < cs.length) : atI (cs.map V.int) s = some (.int (nth cs s)) := by
  refine at_of (j := s.toNat) (by omega) ?_
  have h : s.toNat < cs.length := by omega
  unfold nth
  rw [List.getElem?_map, List.getElem?_eq_getElem h, List.getD_eq_getElem?_getD, List.getElem?_eq_getElem h]
  rfl
/-! ### slices of tuples -/
theorem cut_take {xs : List V} {s : Int} (h0 : 0 ≤ s) (h1 : s ≤ xs.length) : cutV xs none (some s) = xs.take s.toNat := by
  unfold cutV
  obtain ⟨n, rfl⟩ := Int.eq_ofNat_of_zero_le h0
  rw [HT.sIx_none, HT.sIx_nat, Int.toNat_natCast]
  have : n ≤ xs.length := by omega
  rw [Nat.min_eq_left this, Nat.sub_zero, List.drop_zero]
theorem cut_drop {xs : List V} {s : Int} (h0 : 0 ≤ s) (h1 : s ≤ xs.length) : cutV xs (some s) none = xs.drop s.toNat := by
  unfold cutV
  obtain ⟨n, rfl⟩ := Int.eq_ofNat_of_zero_le h0
  rw [HT.sIx_none, HT.sIx_nat, Int.toNat_natCast]
  have : n ≤ xs.length := by omega
  rw [Nat.min_eq_left this]
  exact List.take_of_length_le (by rw [List.length_drop]; exact Nat.le_refl _)
theorem slT_take {K : PySem.W.Frag} {H : Hp} {a : Addr} {xs : List V} {s : Int} {Q : VK} (hs : SqT K H a xs) (h0 : 0 ≤ s) (h1 : s ≤ xs.length) (k : ∀ p H', Same H H' → SqT K H' p (xs.take s.toNat) → Q (.ref p) H') : rSlA K (.ref a) none (some s) H Q := by
  refine ⟨a, xs, rfl, hs, fun hw => ?_, fun hw p hp => ?_⟩
  · refine k a H (Same.refl _) ?_
    have e : s.toNat = xs.length := by
      have := hw.2
      obtain ⟨n, rfl⟩ := Int.eq_ofNat_of_zero_le h0
      rw [HT.sIx_nat] at this
      rw [Int.toNat_natCast]
      omega
    rw [e, List.take_length]
    exact hs
  · rw [cut_take h0 h1]
    exact k p _ (same_upd hp) (.inl (.inl upd_same))
theorem slT_drop {K : PySem.W.Frag} {H : Hp} {a : Addr} {xs : List V} {s : Int} {Q : VK} (hs : SqT K H a xs) (h0 : 0 ≤ s) (h1 : s ≤ xs.length) (k : ∀ p H', Same H H' → SqT K H' p (xs.drop s.toNat) → Q (.ref p) H') : rSlA K (.ref a) (some s) none H Q := by
  refine ⟨a, xs, rfl, hs, fun hw => ?_, fun hw p hp => ?_⟩
  · refine k a H (Same.refl _) ?_
    have e : s.toNat = 0 := by
      have := hw.1
      obtain ⟨n, rfl⟩ := Int.eq_ofNat_of_zero_le h0
      rw [HT.sIx_nat] at this
      rw [Int.toNat_natCast]
      omega
    rw [e, List.drop_zero]
    exact hs
  · rw [cut_drop h0 h1]
    exact k p _ (same_upd hp) (.inl (.inl upd_same))
theorem catT {K : PySem.W.Frag} {H : Hp} {a b : Addr} {xs ys : List V} {Q : VK} (ha : SqT K H a xs) (hb : SqT K H b ys) (hz : xs.length + ys.length ≤ 100000) (k : ∀ p H', Same H H' → SqT K H' p (xs ++ ys) → Q (.ref p) H') : rCatA K (.ref a) (.ref b) H Q := by
  refine ⟨a, b, xs, ys, rfl, rfl, ha, hb, Nat.le_trans hz (by decide), fun e => ?_, fun _ e => ?_, fun _ _ p hp => ?_⟩
  · subst e; exact k b H (Same.refl _) hb
  · subst e; rw [List.append_nil] at k; exact k a H (Same.refl _) ha
  · exact k p _ (same_upd hp) (.inl (.inl upd_same))
/-! ### isinstance of data -/
def isD (d : PyData) (U : String) : Bool := tyName d == U || (tyName d == "bool" && U == "int")
theorem dp_tyx {K : PySem.W.Frag} {H : Hp} {x : V} {d : PyData} (h : Dp K H x d) : TyX K H x (.type (tyName d)) := by
  cases h with
  | non => exact .base .non
  | bl b => exact .base (.bl b)
  | int i => exact .base (.int i)
  | str z => exact .base (.str z)
  | lst hs _ =>
    rcases hs with (h | ⟨o, h⟩) | ⟨o, its, n, hk, hc, _⟩
    · exact .base (.lst h)
    · exact .base (.frz h)
    · exact .kList hk hc
  | tup hs _ =>
    rcases hs with (h | ⟨o, h⟩) | ⟨o, its, n, hk, hc, _⟩
    · exact .base (.tup h)
    · exact .fTuple h
    · exact .kTuple hk hc
theorem kit_names : ∀ a ∈ ["NoneType", "bool", "int", "str", "list", "tuple"], ∀ b ∈ ["int", "bool", "tuple", "list"], kitB a b = some (a == b || (a == "bool" && b == "int")) := by decide +kernel
def rIsD (K : PySem.W.Frag) : List V → Hp → VK → Prop := fun xs H Q => ∃ (x : V) (d : PyData) (U : String), xs = [x, .ty U] ∧ Dp K H x d ∧ U ∈ ["int", "bool", "tuple", "list"] ∧ Q (.bl (isD d U)) H
theorem call_isD {X : Cx} : CallR X (.builtin "isinstance") (rIsD X.K) := by
  intro pins s σ H xs us Q I r h
  obtain ⟨x, d, U, rfl, hd, hU, q⟩ := h
  refine call_isi pins s σ H _ us Q I r ⟨x, .ty U, _, _, _, rfl, .ty U, dp_tyx hd, kit_ty (kit_names _ ?_ U hU), q⟩
  cases hd <;> simp [tyName]
/-! ### the laws' own numbers -/
def cellAt (ns : List Int) (k : Nat) : Int := match ns[k]? with
  | some x => x + x % 251 * 381840
  | none => 0
def mixed (c k : Int) : Int := (c * (48271 + 7919 * k * k + 104729 * k) + 7919 * k + 12345) % 2147483647
theorem mixed_nn (c k : Int) : 0 ≤ mixed c k := Int.emod_nonneg _ (by decide)
def mostOf (c : Int) : Int := [3, 9, 1000, 1000000].getD (c / 7 % 4).toNat 3
def counts0 (c : Int) : List Int := (List.range (2 + c % 7).toNat).map fun (k : Nat) => 1 + mixed (c / 112) (k : Int) % mostOf c
def planCs (c : Int) : List Int := if c / 28 % 4 = 3 then (counts0 c).set (c / 112 % ((counts0 c).length : Int)).toNat (1000000 - c / 300 % 3) else counts0 c
def planG (c : Int) : Int := [0, 1, 7, c / 112 % 1000001].getD (c / 28 % 4).toNat 0
theorem mod4 (x : Int) : x % 4 = 0 ∨ x % 4 = 1 ∨ x % 4 = 2 ∨ x % 4 = 3 := by omega
theorem mostOf_ok (c : Int) : 3 ≤ mostOf c ∧ mostOf c ≤ 1000000 := by
  unfold mostOf
  rcases mod4 (c / 7) with h | h | h | h <;> rw [h] <;> decide
theorem planG_ok (c : Int) : 0 ≤ planG c ∧ planG c ≤ 1000000 := by
  unfold planG
  have h1 : 0 ≤ c / 112 % 1000001 := Int.emod_nonneg _ (by decide)
  have h2 : c / 112 % 1000001 < 1000001 := Int.emod_lt_of_pos _ (by decide)
  rcases mod4 (c / 28) with h | h | h | h <;> rw [h]
  · exact (by decide : (0 : Int) ≤ 0 ∧ (0 : Int) ≤ 1000000)
  · exact (by decide : (0 : Int) ≤ 1 ∧ (1 : Int) ≤ 1000000)
  · exact (by decide : (0 : Int) ≤ 7 ∧ (7 : Int) ≤ 1000000)
  · show 0 ≤ c / 112 % 1000001 ∧ c / 112 % 1000001 ≤ 1000000
    omega
theorem counts0_len (c : Int) : (counts0 c).length = (2 + c % 7).toNat := by
  unfold counts0
  rw [List.length_map, List.length_range]
theorem counts0_ok (c : Int) : ∀ x ∈ counts0 c, 1 ≤ x ∧ x ≤ 1000000 := fun x hx => by
  obtain ⟨k, _, rfl⟩ := List.mem_map.mp hx
  have := mostOf_ok c
  have h1 : 0 ≤ mixed (c / 112) k % mostOf c := Int.emod_nonneg _ (by omega)
  have h2 : mixed (c / 112) k % mostOf c < mostOf c := Int.emod_lt_of_pos _ (by omega)
  omega
theorem planCs_len (c : Int) : (planCs c).length = (2 + c % 7).toNat := by
  unfold planCs
  split
  · rw [List.length_set, counts0_len]
  · exact counts0_len c
theorem plan_ok (c : Int) : Plan (planCs c) (planG c) := by
  refine ⟨by rw [planCs_len]; omega, by rw [planCs_len]; omega, fun x hx => ?_, planG_ok c⟩
  unfold planCs at hx
  split at hx
  · rcases List.mem_or_eq_of_mem_set hx with hx | rfl
    · exact counts0_ok c x hx
    · omega
  · exact counts0_ok c x hx
def signAt (c : Int) (n : Nat) (k : Nat) : Int :=
  if c / 61 % 4 = 2 ∧ (k : Int) % 4 < 3 then 0 else if c / 61 % 4 = 1 then c / 244 % (n : Int) else mixed (c / 244) k % (n : Int)
def signsOf (c : Int) (n : Nat) (most : Int) : List Int := (List.range (c % (most + 1)).toNat).map (signAt c n)
theorem signAt_ok {c : Int} {n k : Nat} (h : 0 < n) : 0 ≤ signAt c n k ∧ signAt c n k < n := by
  unfold signAt
  have h1 : 0 ≤ c / 244 % (n : Int) := Int.emod_nonneg _ (by omega)
  have h2 : c / 244 % (n : Int) < n := Int.emod_lt_of_pos _ (by omega)
  have h3 : 0 ≤ mixed (c / 244) k % (n : Int) := Int.emod_nonneg _ (by omega)
  have h4 : mixed (c / 244) k % (n : Int) < n := Int.emod_lt_of_pos _ (by omega)
  split
  · omega
  · split <;> omega
theorem signsOf_ok {c : Int} {n : Nat} {most : Int} (h : 0 < n) : ∀ s ∈ signsOf c n most, 0 ≤ s ∧ s < n := fun s hs => by
  obtain ⟨k, _, rfl⟩ := List.mem_map.mp hs
  exact signAt_ok h
theorem signsOf_len {c : Int} {n : Nat} {most : Int} (h : 0 ≤ most) : (signsOf c n most).length ≤ most.toNat := by
  unfold signsOf
  rw [List.length_map, List.length_range]
  have h2 : c % (most + 1) < most + 1 := Int.emod_lt_of_pos _ (by omega)
  omega
/-! ### a tuple is not the list that is being made -/
theorem sqt_erase {K : PySem.W.Frag} {D a : Addr} {H : Hp} {xs : List V} (hD : ∃ acc, H D = some (.lst acc)) (h : SqT K H a xs) : SqT K (erase D H) a xs := by
  obtain ⟨acc, e⟩ := hD
  rcases h with (h | ⟨o, h⟩) | h
  · exact .inl (.inl (by rw [erase_at (fun z => by rw [z, e] at h; cases h)]; exact h))
  · exact .inl (.inr ⟨o, by rw [erase_at (fun z => by rw [z, e] at h; cases h)]; exact h⟩)
  · exact .inr h
theorem dpa_map {K : PySem.W.Frag} {H : Hp} {α : Type} (f : α → V) (g : α → PyData) (h : ∀ x, Dp K H (f x) (g x)) : ∀ l : List α, DpAll K H (l.map f) (l.map g)
  | [] => .nil
  | x :: r => .cons (h x) (dpa_map f g h r)
theorem areWhole_mem {ds : List PyData} {lo hi : Int} {d : PyData} (hd : d ∈ ds) (h : isWhole d lo hi = false) : areWhole ds lo hi = false := by
  rw [Bool.eq_false_iff]
  intro z
  have := List.all_eq_true.mp z d hd
  rw [h] at this
  cases this
/-- a count is none -/
theorem noplan_count {cs : List PyData} {g d : PyData} (hd : d ∈ cs) (h : isWhole d 1 1000000 = false) : isPlan (.tuple [.tuple cs, g]) = false := by
  show (decide (2 ≤ cs.length) && decide (cs.length ≤ 8) && areWhole cs 1 1000000 && isWhole g 0 1000000) = false
  rw [areWhole_mem hd h, Bool.and_false]
  rfl
theorem noplan_gain {cs : List PyData} {g : PyData} (h : isWhole g 0 1000000 = false) : isPlan (.tuple [.tuple cs, g]) = false := by
  show (decide (2 ≤ cs.length) && decide (cs.length ≤ 8) && areWhole cs 1 1000000 && isWhole g 0 1000000) = false
  rw [h, Bool.and_false]
theorem isWhole_out {i lo hi : Int} (h : i < lo ∨ hi < i) : isWhole (.int i) lo hi = false := by
  rw [isWhole_int]
  rcases h with h | h
  · rw [decide_eq_false (by omega : ¬ lo ≤ i)]
    rfl
  · rw [decide_eq_false (by omega : ¬ i ≤ hi), Bool.and_false]
theorem at_dp {K : PySem.W.Frag} {H : Hp} {vs : List V} {ds : List PyData} {k : Int} (h : DpAll K H vs ds) (h0 : 0 ≤ k) (h1 : k < ds.length) : ∃ v d, atI vs k = some v ∧ d ∈ ds ∧ ds[k.toNat]? = some d ∧ Dp K H v d := by
  have hk : k.toNat < ds.length := by omega
  have e : ds[k.toNat]? = some ds[k.toNat] := List.getElem?_eq_getElem hk
  obtain ⟨v, ev, hv⟩ := dpa_get h e
  exact ⟨v, _, at_of (j := k.toNat) (by omega) ev, List.getElem_mem hk, e, hv⟩
/-! ### the same rules, the written part by its own letter (within a comprehension it must be so) -/
section
variable {X : Cx} {K : PySem.W.Frag}
theorem sl_tupK (h : X.K = K) : SlR X (rSlA K) := by subst h; exact sl_tupA
theorem sl_listK (h : X.K = K) : SlR X (rSlL K) := by subst h; exact sl_list
theorem ix_tupK (h : X.K = K) : IxR X (rIxT K) := by subst h; exact ix_tup
theorem ix_listK (h : X.K = K) : IxR X (rIxL K) := by subst h; exact ix_list
theorem op_catK (h : X.K = K) : OpR X (binaryOp .Add) (rCatA K) := by subst h; exact op_catA
theorem op_repTK (h : X.K = K) : OpR X (binaryOp .Mult) (rRepT K) := by subst h; exact op_repT
theorem op_eqDK (h : X.K = K) (hu : X.A.units + 64 < cLine) : OpR X (compareOp .Eq) (rEqD K) := by subst h; exact op_eqD hu
theorem op_neDK (h : X.K = K) (hu : X.A.units + 64 < cLine) : OpR X (compareOp .NotEq) (rNeD K) := by subst h; exact op_neD hu
def rLenK (K : PySem.W.Frag) : List V → Hp → VK → Prop := fun xs H Q => ∃ p ys, xs = [.ref p] ∧ (SqL K H p ys ∨ SqT K H p ys) ∧ Q (.int (ys.length : Int)) H
theorem lenK (h : X.K = K) : CallR X (.builtin "len") (rLenK K) := by subst h; exact call_len_seq
def rTupK (K : PySem.W.Frag) : List V → Hp → VK → Prop := fun xs H Q => ∃ p ys, xs = [.ref p] ∧ ((SqL K H p ys ∧ ∀ l, H l = none → Q (.ref l) (upd H l (.tup ys))) ∨ (SqT K H p ys ∧ Q (.ref p) H))
theorem tupleK (h : X.K = K) : CallR X (.type "tuple") (rTupK K) := by subst h; exact call_tuple_of
def rListK (K : PySem.W.Frag) : List V → Hp → VK → Prop := fun xs H Q => ∃ p ys, xs = [.ref p] ∧ (SqL K H p ys ∨ SqT K H p ys) ∧ ∀ l, H l = none → Q (.ref l) (upd H l (.lst ys))
theorem listK (h : X.K = K) : CallR X (.type "list") (rListK K) := by subst h; exact call_list_of
theorem typeK (h : X.K = K) : CallR X (.type "type") (rTyD K) := by subst h; exact call_typeD
theorem isK (h : X.K = K) : CallR X (.builtin "isinstance") (rIsD K) := by subst h; exact call_isD
theorem sumTK (h : X.K = K) (hc : X.calm = true) : CallR X (.builtin "sum") (rSumT K) := by subst h; exact cr_sumT hc
theorem sumLK (h : X.K = K) (hc : X.calm = true) : CallR X (.builtin "sum") (rSum K) := by subst h; exact cr_sum hc
theorem allK (h : X.K = K) (hc : X.calm = true) : CallR X (.builtin "all") (rAll K) := by subst h; exact cr_all hc
theorem anyK (h : X.K = K) (hc : X.calm = true) : CallR X (.builtin "any") (rAny K) := by subst h; exact cr_any hc
theorem pg_tupK {es : List Expr} {k : Nat} {t : TGs} {n : Nat} {pos : Pos} (hK : X.K = K) (hc : X.calm = true) (h : PGs X es t) (hn : (assignEach es X.env).length = n := by rfl) (hst : (assignEach es X.env).findIdx? (·.1) = none := by rfl) : PG X (.Tuple es k pos) (gTup K n t) := by
  subst hK
  exact pg_tup hc h hn hst
theorem pi_listK {l tg : Expr} {tl : TE} (h : X.K = K) (hl : PE X l tl) : PI X tg l (iList K tl) := by subst h; exact pi_list hl
theorem pi_tupK {l tg : Expr} {tl : TE} (h : X.K = K) (hl : PE X l tl) : PI X tg l (iTup K tl) := by subst h; exact pi_tup hl
end
/-- the list that is gone over, made first -/
theorem lc_src {K : PySem.W.Frag} {tl : TE} {g : TG} {tt : TT} {te : TE} {js : List Nat} {σ : L2.St} {H : Hp} {Q : VK} (h : tl σ H fun x H1 => tLc (iList K (tC x)) g tt te js σ H1 Q) : tLc (iList K tl) g tt te js σ H Q := h
theorem hold {u : TS} {D : Ends} {σ : L2.St} {H : Hp} (h : u D σ H) : Hold u D σ H := h
end Pl

namespace Pl
open PySem PySem.Spec PyProof.Rows L2
/-! ### a def called in an except suite that is handed the error itself -/
/-- as L2H.FnH; what it promises may speak of the error at hand, z -/
structure FnZ (P : Program) (w : World) (K : PySem.W.Frag) (mg : Str → Option Value) (base : Heap) (k : Nat) (g : Addr) (gd : FuncData) (qs : List Str) (sp : Addr × Obj → Sp) : Prop where
  len : ∀ z vs H Q E, sp z vs H Q E → vs.length = qs.length
  run : ∀ (z : Addr × Obj) (B : Around) (out : List Env) (t : Shared) (H : Hp) (xs : Args) (us : List Value) (vs : List V) (Q : VK) (E : XK), L2H.RoomH k B → L2H.Hot1 B z → L2H.PinOk out H t z → Env0 P w K mg base B out t H →
    BindsTo t gd xs (qs.zip us) → Vals vs us → sp z vs H Q E → codeAny (model P w) B (.call (.ref g) xs) (CR CX0 out P w H t Q E) t
theorem fnz_of {P : Program} {w : World} {K : PySem.W.Frag} {mg : Str → Option Value} {base : Heap} {k : Nat} {g : Addr} {gd : FuncData} {nm qn : Str} {prm : Arguments} {bdy : List Stmt} {scp : Scope} {M qs : List Str} {sp : Addr × Obj → Sp}
    (F : FunD K nm qn prm bdy scp [] [] g gd) (S : FnScope M qs scp) (len : ∀ z vs H Q E, sp z vs H Q E → vs.length = qs.length)
    (hb : ∀ (cdv : Value) (B : Around) (out : List Env) (t : Shared) (H : Hp) (vs : List V) (Q : VK) (E : XK) (z : Addr × Obj), sp z vs H Q E →
      ∃ r, PSs (L2H.cxH CX0 P w K mg base M qn scp g cdv B out t H E z) bdy r ∧ r { nx := fun _ H' => Q .non H', rt := Q } (L2.start M vs) H) : FnZ P w K mg base (k + 1) g gd qs sp := by
  obtain ⟨oc, od, dV, kV, doc, pm, an, cdv, ct, osl, rfl, lk, hcd, _, _⟩ := F.ex
  refine ⟨len, fun z B out t H xs us vs Q E hroom hhot hz e0 hbd rv hsp => ?_⟩
  have hlen := len _ _ _ _ _ hsp
  have inK : K.In t.heap := e0.mod.kin.keeps fun b o e => (e0.bs b o e).1
  have nol : t.heap.NoLimit := e0.mod.nolimit.keeps fun b o e => (e0.bs b o e).1
  have kinds : ∀ y ∈ qs.zip us, scp.names.lookup y.1 = some .local ∨ (scp.names.lookup y.1 = some .cell ∧ ((cellsFrom (t.heap.objs.size + 1) scp.names []).lookup y.1).isSome = true) := fun ⟨n, v⟩ hy => by
    rcases S.par n (List.of_mem_zip hy).1 with q | q
    · exact .inl q
    · exact .inr ⟨q, PySem.W.cellsFrom_some _ _ _ (.inl q)⟩
  refine codeAny_call_function hroom.depth (inK _ _ lk) rfl S.co S.gen rfl (PySem.W.codeRec_of inK hcd) (hbd _ _ _ _ ?_)
  refine wpAny_newFunctionEnv_cells S.kind kinds fun env he t1 ic => ?_
  subst he
  refine ⟨nol.keeps ic.toInCall.keep, codeAny_func ?_⟩
  obtain ⟨r, hr, hq⟩ := hb cdv B out t H vs Q E z hsp
  have J0 := L2H.inv_startH (CX := CX0) (P := P) (w := w) (K := K) (mg := mg) (base := base) (N := M) (ps := qs) (qual := qn) (scope := scp) (f := g) (cd := cdv) (A := B) (outer := out) (s := t) (s1 := t1) (H := H) (E := E) S hz e0 hlen rv ic
  refine wpAny_mono (hr.run [] t1 (L2.start M vs) H _ J0 hq) (fun fl t' ht => ?_) fun e t' ht => ht
  cases fl with
  | ret u =>
    obtain ⟨v, σ', H', J, rr, q⟩ := ht
    exact ⟨v, H', J.os, J.bare, J.base, J.hok, rr, q⟩
  | next =>
    obtain ⟨σ', H', J, q⟩ := ht
    exact ⟨V.non, H', J.os, J.bare, J.base, J.hok, rfl, q⟩
  | brk => exact ht.elim fun _ ⟨_, _, q⟩ => q.elim
  | cont => exact ht.elim fun _ ⟨_, _, q⟩ => q.elim
section
variable {X : Cx} {k : Nat} {g : Addr} {gd : FuncData} {qs : List Str} {sp : Addr × Obj → Sp} {sp2 : Sp} {y : Str} {q pos : Pos} {a : Expr} {as : List Expr} {r : TA}
theorem pe_callZ {z : Addr × Obj} (F : FnZ X.prog X.w X.K X.mg X.base k g gd qs sp) (hr : L2H.RoomH k X.A) (hz : L2H.Hot1 X.A z) (hp : z ∈ X.pn) (hm : X.mg y = some (.ref g)) (hk : PySem.W.keepIn X.K (.ref g) = true) (hb : Binds X.K gd qs [])
    (hi : ∀ vs H Q, sp2 vs H Q E0 → sp z vs H Q E0) (ha : PA X (a :: as) r) (hg : Gl X y := by rfl) (hdb : (y == ("__debug__" : Str)) = false := by decide) (he : starEach (a :: as) X.env = (false, eval a X.env) :: starEach as X.env := by rfl) (hpl : (backTo pos (starEach as X.env)).any (·.1) = false := by rfl) :
    PE X (.Call (.Name y q) (a :: as) [] pos) (tCallS sp2 (fun _ => E0) r) := by
  refine ⟨fun pins t σ H Q I h => ?_⟩
  refine wpAny_Call_Name_kw (ld_glob I hg hm ?_ hdb)
  refine PySem.W.callWith_K (h₀ := X.base) I.ok.mod.kin hk (thn (ha.run pos pins t σ H _ I h) fun us t1 ⟨vs, H1, I1, rv, hsp2⟩ => ⟨I1.kIn, ?_⟩) he hpl
  have hsp := hi _ _ _ hsp2
  have hlen : us.length = qs.length := by rw [← rv.length]; exact F.len _ _ _ _ _ hsp
  have bd := hb t1 us I1.kIn (by rw [List.append_nil]; exact hlen)
  rw [List.append_nil] at bd
  have P1 := I1.pin z (List.mem_append_left _ hp)
  have pk : L2H.PinOk X.stack H1 t1 z := ⟨P1.1, P1.2.1, fun hm => (List.mem_cons.mp (I1.stkSub z.1 hm)).elim P1.2.2.1 P1.2.2.2.1, P1.2.2.2.2⟩
  refine wpAny_call (codeAny_mono (F.run z X.A X.stack t1 H1 ⟨us, []⟩ us vs Q E0 hr hz pk I1.env0 bd rv hsp) fun o t' ho => ?_)
  cases o with
  | error e => exact ho.elim
  | ok fl =>
    cases fl with
    | ret u => exact I1.after ho
    | next => exact ho.elim
    | brk => exact ho.elim
    | cont => exact ho.elim
end
/-! ### isinstance of that error -/
def rIsZ (K : PySem.W.Frag) (D a : Addr) : List V → Hp → VK → Prop := fun xs H Q => ∃ (c : V) (cv : Value) (b : Bool), xs = [.ref a, c] ∧ (∀ u, RelV c u → u = cv) ∧ PySem.W.kitOne K (.ref D) cv = some b ∧ Q (.bl b) H
theorem call_isZ {X : Cx} {a D : Addr} {oe : Obj} (C : ExcC X.K D) (hp : (a, oe) ∈ X.pn) (hz : Zc (.ref D) none oe) (hf : ∃ vs, oe.data = .fields vs) : CallR X (.builtin "isinstance") (rIsZ X.K D a) := by
  intro pins t σ H xs us Q I r h
  obtain ⟨c, cv, b, rfl, hcv, e, q⟩ := h
  obtain ⟨u1, u2, rfl, r1, r2⟩ := vals2 r
  cases (show u1 = Value.ref a from r1)
  cases hcv _ r2
  have hget := (I.pin (a, oe) (List.mem_append_left _ hp)).1
  obtain ⟨vs, hv⟩ := hf
  have J : PySem.W.InstAt t.heap a oe D none := by
    obtain ⟨oc, od, oda, osl⟩ := oe
    obtain ⟨z1, z2⟩ := hz
    dsimp only at z1 z2 hv
    subst z1 z2 hv
    exact ⟨hget, rfl, rfl, trivial⟩
  exact PySem.W.kia_one (PySem.W.handS_kitx_exc C.hg C.hk C.hs C.hd C.ha C.hn C.ht C.hm) I.kIn J e (fun z => nomatch z) fun tk => ⟨.bl b, H, I.kept (t' := tk) fun _ _ z => z, rfl, q⟩
/-! ### str * 0 or 1 -/
def rRepS : R2 := fun x y H Q => ∃ (z : Str) (k : Int), x = .str z ∧ y = .int k ∧ z.length ≤ 1000 ∧ 0 ≤ k ∧ k ≤ 10 ∧ Q (.str (Txt.mul z k)) H
theorem op_repS {X : Cx} : OpR X (binaryOp .Mult) rRepS := by
  intro pins t σ H x y v u Q I rx ry h
  obtain ⟨z, k, rfl, rfl, hz, h0, h1, q⟩ := h
  obtain ⟨t1, rfl⟩ := (show ∃ t, v = Value.str z t from rx)
  obtain ⟨t2, rfl⟩ := (show ∃ t, u = Value.int k t from ry)
  exact SB.mul (mulOk_of 1048576 16 (by omega) (by omega) (by omega) (by decide) (by decide)) fun t' tk => ⟨.str _, H, I.tok tk, ⟨_, rfl⟩, q⟩
/-! ### the errors' classes -/
def errs : List Err := [.plan, .sign, .count, .figures, .ended]
theorem err_mem (e : Err) : e ∈ errs := by cases e <;> simp [errs]
def pressC (K : PySem.W.Frag) : Addr := He.ga K "PressError"
structure ErrTop (K : PySem.W.Frag) : Prop where
  exc : ∀ e, ExcC K (errC K e)
  kit : ∀ e e', PySem.W.kitOne K (.ref (errC K e)) (.ref (errC K e')) = some (decide (e = e'))
  kitV : ∀ e, PySem.W.kitOne K (.ref (errC K e)) (.type "ValueError") = some true
  exm : ∀ e, PySem.W.exmOne K (.ref (errC K e)) (.ref (pressC K)) = some true
  raise : ∀ e, PySem.W.excIn K (errC K e) He.veBase "ValueError.__new__" = true ∧ PySem.W.keepIn K (.ref (errC K e)) = true ∧ PySem.W.subIn K (.ref (errC K e)) (.type "BaseException") = some true ∧ PySem.W.typeIn K (.ref (errC K e)) = some (.type "type")
def errB1 (K : PySem.W.Frag) (C : Addr) : Bool :=
  He.eqO (PySem.W.findIn K (.ref C) "__getattribute__") (some (some (.builtin "BaseException.__getattribute__"))) && (He.eqO (PySem.W.findIn K (.ref C) "__getattr__") (some none) &&
  (decide (PySem.W.subIn K (.ref C) (.type "BaseException") = some true) && (PySem.W.hasDictIn K C && (He.eqO (PySem.W.findIn K (.ref C) "__class__") (some (some (.builtin "object.__class__"))) &&
  (He.eqO (PySem.W.specialIn K (.builtin "object.__class__") "__get__") (some (some (.builtin "getset_descriptor.__get__"))) && (decide (PySem.W.takesIn K (.builtin "object.__class__") = some true) && decide (PySem.W.mroIn K C (.type "object") = some true)))))))
def errB (K : PySem.W.Frag) : Bool := errs.all fun e => errB1 K (errC K e) && ((errs.all fun e' => decide (PySem.W.kitOne K (.ref (errC K e)) (.ref (errC K e')) = some (decide (e = e')))) &&
  (decide (PySem.W.kitOne K (.ref (errC K e)) (.type "ValueError") = some true) && (decide (PySem.W.exmOne K (.ref (errC K e)) (.ref (pressC K)) = some true) &&
  (PySem.W.excIn K (errC K e) He.veBase "ValueError.__new__" && (PySem.W.keepIn K (.ref (errC K e)) && (decide (PySem.W.subIn K (.ref (errC K e)) (.type "BaseException") = some true) && decide (PySem.W.typeIn K (.ref (errC K e)) = some (.type "type"))))))))
theorem errB1_ok {K : PySem.W.Frag} {C : Addr} (h : errB1 K C = true) : ExcC K C := by
  obtain ⟨h1, h⟩ := He.ba h
  obtain ⟨h2, h⟩ := He.ba h
  obtain ⟨h3, h⟩ := He.ba h
  obtain ⟨h4, h⟩ := He.ba h
  obtain ⟨h5, h⟩ := He.ba h
  obtain ⟨h6, h⟩ := He.ba h
  obtain ⟨h7, h8⟩ := He.ba h
  exact ⟨He.eqO_ok h1, He.eqO_ok h2, of_decide_eq_true h3, h4, He.eqO_ok h5, He.eqO_ok h6, of_decide_eq_true h7, of_decide_eq_true h8⟩
theorem errB_ok {K : PySem.W.Frag} (h : errB K = true) : ErrTop K := by
  have key := fun e => List.all_eq_true.mp h e (err_mem e)
  refine ⟨fun e => errB1_ok (He.ba (key e)).1, fun e e' => ?_, fun e => ?_, fun e => ?_, fun e => ?_⟩
  · exact of_decide_eq_true (List.all_eq_true.mp (He.ba (He.ba (key e)).2).1 e' (err_mem e'))
  · exact of_decide_eq_true (He.ba (He.ba (He.ba (key e)).2).2).1
  · exact of_decide_eq_true (He.ba (He.ba (He.ba (He.ba (key e)).2).2).2).1
  · obtain ⟨h1, h⟩ := He.ba (He.ba (He.ba (He.ba (He.ba (key e)).2).2).2).2
    obtain ⟨h2, h⟩ := He.ba h
    obtain ⟨h3, h4⟩ := He.ba h
    exact ⟨h1, h2, of_decide_eq_true h3, of_decide_eq_true h4⟩
def wordOf : Err → Str
  | .plan => "plan"
  | .sign => "sign"
  | .count => "count"
  | .figures => "figures"
  | .ended => "ended"
def bit (b : Bool) : Int := if b then 1 else 0
theorem rep_bit (b : Bool) (xs : List V) : (List.replicate (bit b).toNat xs).flatten = if b then xs else [] := by
  cases b
  · rfl
  · show (List.replicate 1 xs).flatten = xs
    simp
/-! ### a try that catches what is told of the top, its suite handing the error on -/
theorem takesN0 {X : Cx} : L2N.Takes X (fun _ _ _ _ => False) := fun _ _ x => by
  obtain ⟨_, _, _, _, _, _, _, _, _, _, _, _, _, _, _, _, z⟩ := x
  exact z.elim
theorem roomH_of {k : Nat} {A : Around} {v : Option Value} (r : Room k A) : L2H.RoomH k (A.mark v) := ⟨r.dp, r.un⟩
theorem hot_of {A : Around} {a : Addr} {oe : Obj} {cls : Value} {d : Option Addr} (hz : L2N.Zn cls d oe) (hf : ∃ vs, oe.data = .fields vs) : L2H.Hot1 (A.mark (some (.ref a))) (a, oe) := by
  obtain ⟨vs, e⟩ := hf
  exact ⟨rfl, vs, e, hz.2.2 vs e⟩
end Pl

namespace Pl
open PySem PySem.Spec PyProof.Rows L2
theorem dpa_take {K : PySem.W.Frag} {H : Hp} : ∀ {n : Nat} {vs : List V} {ds : List PyData}, DpAll K H vs ds → DpAll K H (vs.take n) (ds.take n)
  | 0, _, _, _ => .nil
  | _ + 1, _, [], h => by cases h; exact .nil
  | n + 1, _, _ :: _, h => by
    cases h with
    | cons a b => exact .cons a (dpa_take b)
theorem dpa_drop {K : PySem.W.Frag} {H : Hp} : ∀ {n : Nat} {vs : List V} {ds : List PyData}, DpAll K H vs ds → DpAll K H (vs.drop n) (ds.drop n)
  | 0, _, _, h => h
  | _ + 1, _, [], h => by cases h; exact .nil
  | n + 1, _, _ :: _, h => by
    cases h with
    | cons a b => exact dpa_drop (n := n) b
/-! ### what comes of an expression, as data; what stood stays -/
def EvD (K : PySem.W.Frag) (te : TE) (σ : L2.St) (H : Hp) (d : PyData) : Prop := ∀ H1 (Q : VK), Same H H1 → (∀ v H2, Same H1 H2 → Dp K H2 v d → Q v H2) → te σ H1 Q
def EvDs (K : PySem.W.Frag) (ta : TA) (σ : L2.St) (H : Hp) (ds : List PyData) : Prop := ∀ H1 (Q : List V → Hp → Prop), Same H H1 → (∀ vs H2, Same H1 H2 → DpAll K H2 vs ds → Q vs H2) → ta σ H1 Q
/-- a plain value -/
def EvV (te : TE) (σ : L2.St) (H : Hp) (v : V) : Prop := ∀ H1 (Q : VK), Same H H1 → (∀ H2, Same H1 H2 → Q v H2) → te σ H1 Q
/-- a list that is tracked -/
def EvK (K : PySem.W.Frag) (te : TE) (σ : L2.St) (H : Hp) (ds : List PyData) : Prop := ∀ H1 (Q : VK), Same H H1 → (∀ p vs H2, Same H1 H2 → H2 p = some (.lst vs) → DpAll K H2 vs ds → Q (.ref p) H2) → te σ H1 Q
/-- a new list -/
def EvO (K : PySem.W.Frag) (te : TE) (σ : L2.St) (H : Hp) (ds : List PyData) : Prop := ∀ H1 (Q : VK), Same H H1 → (∀ p vs H2, H1 p = none → Same H1 H2 → H2 p = some (.lst vs) → DpAll K H2 vs ds → Q (.ref p) H2) → te σ H1 Q
section
variable {K : PySem.W.Frag} {te ta tb : TE} {tas tr : TA} {σ : L2.St} {H H' : Hp} {d e : PyData} {ds es : List PyData} {v x y : V} {i : Nat}
theorem EvD.mono (s : Same H H') (h : EvD K te σ H d) : EvD K te σ H' d := fun H1 Q s1 k => h H1 Q (s.trans s1) k
theorem EvO.mono (s : Same H H') (h : EvO K te σ H ds) : EvO K te σ H' ds := fun H1 Q s1 k => h H1 Q (s.trans s1) k
theorem EvK.mono (s : Same H H') (h : EvK K te σ H ds) : EvK K te σ H' ds := fun H1 Q s1 k => h H1 Q (s.trans s1) k
theorem EvV.mono (s : Same H H') (h : EvV te σ H v) : EvV te σ H' v := fun H1 Q s1 k => h H1 Q (s.trans s1) k
theorem EvO.k (h : EvO K te σ H ds) : EvK K te σ H ds := fun H1 Q s1 k => h H1 Q s1 fun p vs H2 _ s2 e2 d2 => k p vs H2 s2 e2 d2
theorem EvK.dat (h : EvK K te σ H ds) : EvD K te σ H (.list ds) := fun H1 Q s1 k => h H1 Q s1 fun p vs H2 s2 e2 d2 => k _ H2 s2 (.lst (.inl (.inl e2)) d2)
theorem EvV.dat (h : EvV te σ H v) (hd : ∀ H2, Same H H2 → Dp K H2 v d) : EvD K te σ H d := fun H1 Q s1 k => h H1 Q s1 fun H2 s2 => k v H2 s2 (hd H2 (s1.trans s2))
theorem EvV.int {n : Int} (h : EvV te σ H (.int n)) : EvD K te σ H (.int n) := h.dat fun _ _ => .int n
theorem EvV.bool {b : Bool} (h : EvV te σ H (.bl b)) : EvD K te σ H (.bool b) := h.dat fun _ _ => .bl b
theorem EvD.v_int {n : Int} (h : EvD K te σ H (.int n)) : EvV te σ H (.int n) := fun H1 Q s1 k => h H1 Q s1 fun v H2 s2 d2 => by rw [dp_int d2]; exact k H2 s2
theorem ev_var (h : σ[i]? = some (some v)) : EvV (tVar i) σ H v := fun H1 Q _ k => ⟨v, h, k H1 (Same.refl H1)⟩
theorem ev_c : EvV (tC v) σ H v := fun H1 Q _ k => k H1 (Same.refl H1)
/-- by the reading itself, where nothing new is made -/
theorem ev_v (h : ∀ H1 (Q : VK), Same H H1 → Q v H1 → te σ H1 Q) : EvV te σ H v := fun H1 Q s1 k => h H1 Q s1 (k H1 (Same.refl H1))
theorem evd_var (h : σ[i]? = some (some v)) (hd : Dp K H v d) : EvD K (tVar i) σ H d := (ev_var h).dat fun H2 s => dp_same s _ _ hd
theorem evd_int {n : Int} : EvD K (tC (.int n)) σ H (.int n) := ev_c.dat fun _ _ => .int n
theorem evd_bl {b : Bool} : EvD K (tC (.bl b)) σ H (.bool b) := ev_c.dat fun _ _ => .bl b
theorem evd_str {z : Str} : EvD K (tC (.str z)) σ H (.str z) := ev_c.dat fun _ _ => .str z
theorem evd_non : EvD K (tC .non) σ H .none := ev_c.dat fun _ _ => .non
theorem eds_nil : EvDs K tNil σ H [] := fun H1 Q _ k => k [] H1 (Same.refl H1) .nil
theorem eds_cons (h : EvD K te σ H d) (hr : EvDs K tr σ H ds) : EvDs K (tCons te tr) σ H (d :: ds) := fun H1 Q s1 k => h H1 _ s1 fun v H2 s2 d2 => hr H2 _ (s1.trans s2) fun vs H3 s3 d3 => k _ H3 (s2.trans s3) (.cons (dp_same s3 _ _ d2) d3)
theorem evd_tup (h : EvDs K tas σ H ds) (hl : ds.length ≤ 100000) : EvD K (tTup tas) σ H (.tuple ds) := fun H1 Q s1 k => h H1 _ s1 fun vs H2 s2 d2 =>
  ⟨by rw [dpa_len d2]; exact Nat.le_trans hl (by decide), fun p np => k _ _ (s2.trans (same_upd np)) (.tup (.inl (.inl upd_same)) (dpa_same (same_upd np) _ _ d2))⟩
theorem evo_lst (h : EvDs K tas σ H ds) (hl : ds.length ≤ 100000) : EvO K (tLst tas) σ H ds := fun H1 Q s1 k => h H1 _ s1 fun vs H2 s2 d2 =>
  ⟨by rw [dpa_len d2]; exact Nat.le_trans hl (by decide), fun p np => k p vs _ (s2.free np) (s2.trans (same_upd np)) upd_same (dpa_same (same_upd np) _ _ d2)⟩
theorem evk_var {p : Addr} {vs : List V} (h : σ[i]? = some (some (.ref p))) (he : H p = some (.lst vs)) (hd : DpAll K H vs ds) : EvK K (tVar i) σ H ds := fun H1 Q s1 k =>
  ⟨_, h, k p vs H1 (Same.refl H1) (s1 _ _ he) (dpa_same s1 _ _ hd)⟩
theorem evo_cat (ha : EvK K ta σ H ds) (hb : EvK K tb σ H es) (hl : ds.length + es.length ≤ 100000) : EvO K (tOp rCat ta tb) σ H (ds ++ es) := fun H1 Q s1 k =>
  ha H1 _ s1 fun p vs H2 s2 e2 d2 => hb H2 _ (s1.trans s2) fun q us H3 s3 e3 d3 => ⟨p, q, vs, us, rfl, rfl, s3 _ _ e2, e3, by rw [dpa_len d2, dpa_len d3]; exact Nat.le_trans hl (by decide), fun l nl =>
    k l _ _ ((s2.trans s3).free nl) ((s2.trans s3).trans (same_upd nl)) upd_same (dpa_app (dpa_same (s3.trans (same_upd nl)) _ _ d2) (dpa_same (same_upd nl) _ _ d3))⟩
/-- a comprehension over a list -/
theorem evo_lc {j : Nat} {tt : TT} {w : PyData} (keep : PyData → Bool) (g : PyData → PyData) (hs : EvK K te σ H ds) (hz : ds.length ≤ 100000)
    (ht : ∀ x d H1 (R : Bool → Hp → Prop), d ∈ ds → Same H H1 → Dp K H1 x d → (∀ H2, Same H1 H2 → R (keep d) H2) → tt ((wipe σ [j]).set j (some x)) H1 R)
    (he : ∀ x d H1 D (R : VK), d ∈ ds → keep d = true → Same H H1 → Dp K (erase D H1) x d → (∃ acc, H1 D = some (.lst acc)) → Same H (erase D H1) → (∀ y H2, Same H1 H2 → Dp K (erase D H2) y (g d) → R y H2) → tb ((wipe σ [j]).set j (some x)) H1 R) :
    EvO K (tLc (iList K te) (gName j) tt tb [j]) σ H ((ds.filter keep).map g) := fun H1 Q s1 k => by
  refine lc_src (hs H1 _ s1 fun p vs H2 s2 e2 d2 => ?_)
  have hl := dpa_len d2
  refine lc_dpL (fun n => keep (ds.getD n w)) (fun n => g (ds.getD n w)) (fun R h => h) (.inl (.inl e2)) (by omega) (fun n x H3 R e3 s3 k3 => ?_) (fun n x H3 D R e3 kp hD hacc s3 k3 => ?_) (fun D acc H3 hD s3 e3 d3 => ?_)
  · obtain ⟨d, ed, hx⟩ := dpa_get2 d2 e3
    rw [getD_of ed] at k3
    exact ht x d H3 R (List.mem_of_getElem? ed) ((s1.trans s2).trans s3) (dp_same s3 _ _ hx) k3
  · obtain ⟨d, ed, hx⟩ := dpa_get2 d2 e3
    rw [getD_of ed] at k3 kp
    exact he x d H3 D R (List.mem_of_getElem? ed) kp ((s1.trans s2).trans s3) (dp_same (same_erase s3 hD) _ _ hx) hacc ((s1.trans s2).trans (same_erase s3 hD)) k3
  · refine k D acc H3 (s2.free hD) (s2.trans s3) e3 ?_
    have e0 : (List.range ds.length).map (fun n => ds.getD n w) = ds := by
      have := range_get ds (fun d => d) w
      rw [List.map_id'] at this
      exact this
    have ez : ((List.range vs.length).filter fun n => keep (ds.getD n w)).map (fun n => g (ds.getD n w)) = (ds.filter keep).map g := by
      rw [hl]
      calc ((List.range ds.length).filter fun n => keep (ds.getD n w)).map (fun n => g (ds.getD n w))
          = (((List.range ds.length).filter (keep ∘ fun n => ds.getD n w)).map (fun n => ds.getD n w)).map g := by rw [List.map_map]; rfl
        _ = (((List.range ds.length).map (fun n => ds.getD n w)).filter keep).map g := by rw [List.filter_map]
        _ = (ds.filter keep).map g := by rw [e0]
    rw [ez] at d3
    exact d3
theorem evd_ix {n : Int} (ha : EvD K ta σ H (.list ds)) (hb : EvV tb σ H (.int n)) (h0 : 0 ≤ n) (he : ds[n.toNat]? = some d) : EvD K (tOp (rIxL K) ta tb) σ H d := fun H1 Q s1 k =>
  ha H1 _ s1 fun v H2 s2 d2 => hb H2 _ (s1.trans s2) fun H3 s3 => by
    cases d2 with
    | lst hs ha =>
      obtain ⟨u, eu, hu⟩ := dpa_get ha he
      exact ⟨_, _, n, u, rfl, rfl, s3.seq hs, at_of (j := n.toNat) (by omega) eu, k u H3 (s2.trans s3) (dp_same s3 _ _ hu)⟩
theorem evd_ixT {n : Int} (ha : EvD K ta σ H (.tuple ds)) (hb : EvV tb σ H (.int n)) (h0 : 0 ≤ n) (he : ds[n.toNat]? = some d) : EvD K (tOp (rIxT K) ta tb) σ H d := fun H1 Q s1 k =>
  ha H1 _ s1 fun v H2 s2 d2 => hb H2 _ (s1.trans s2) fun H3 s3 => by
    cases d2 with
    | tup hs ha =>
      obtain ⟨u, eu, hu⟩ := dpa_get ha he
      exact ⟨_, _, n, u, rfl, rfl, same_t s3 hs, at_of (j := n.toNat) (by omega) eu, k u H3 (s2.trans s3) (dp_same s3 _ _ hu)⟩
/-- two ints in -/
theorem ev_op {C : Int → Int → Prop} {g : Int → Int → V} {n m : Int} (ha : EvV ta σ H (.int n)) (hb : EvV tb σ H (.int m)) (hc : C n m) : EvV (tOp (rI C g) ta tb) σ H (g n m) := fun H1 Q s1 k =>
  ha H1 _ s1 fun H2 s2 => hb H2 _ (s1.trans s2) fun H3 s3 => ⟨n, m, rfl, rfl, hc, k H3 (s2.trans s3)⟩
theorem ev_op0 {g : Int → Int → V} {n m : Int} (ha : EvV ta σ H (.int n)) (hb : EvV tb σ H (.int m)) : EvV (tOp (rI0 g) ta tb) σ H (g n m) := fun H1 Q s1 k =>
  ha H1 _ s1 fun H2 s2 => hb H2 _ (s1.trans s2) fun H3 s3 => ⟨n, m, rfl, rfl, k H3 (s2.trans s3)⟩
theorem ev_neg {n : Int} (ha : EvV ta σ H (.int n)) : EvV (tUn (rU fun i => .int (-i)) ta) σ H (.int (-n)) := fun H1 Q s1 k => ha H1 _ s1 fun H2 s2 => ⟨n, rfl, k H2 s2⟩
theorem evd_listOf (ha : EvD K ta σ H (.tuple ds)) : EvO K (tCB (rListK K) (tCons ta tNil)) σ H ds := fun H1 Q s1 k => ha H1 _ s1 fun v H2 s2 d2 => by
  cases d2 with
  | tup hs ha => exact ⟨_, _, rfl, .inr hs, fun l nl => k l _ _ (s2.free nl) (s2.trans (same_upd nl)) upd_same (dpa_same (same_upd nl) _ _ ha)⟩
theorem evd_listOfL (ha : EvD K ta σ H (.list ds)) : EvO K (tCB (rListK K) (tCons ta tNil)) σ H ds := fun H1 Q s1 k => ha H1 _ s1 fun v H2 s2 d2 => by
  cases d2 with
  | lst hs ha => exact ⟨_, _, rfl, .inl hs, fun l nl => k l _ _ (s2.free nl) (s2.trans (same_upd nl)) upd_same (dpa_same (same_upd nl) _ _ ha)⟩
theorem evd_tupOf (ha : EvD K ta σ H (.list ds)) : EvD K (tCB (rTupK K) (tCons ta tNil)) σ H (.tuple ds) := fun H1 Q s1 k => ha H1 _ s1 fun v H2 s2 d2 => by
  cases d2 with
  | lst hs ha => exact ⟨_, _, rfl, .inl ⟨hs, fun l nl => k _ _ (s2.trans (same_upd nl)) (.tup (.inl (.inl upd_same)) (dpa_same (same_upd nl) _ _ ha))⟩⟩
theorem evd_catT (ha : EvD K ta σ H (.tuple ds)) (hb : EvD K tb σ H (.tuple es)) (hl : ds.length + es.length ≤ 100000) : EvD K (tOp (rCatA K) ta tb) σ H (.tuple (ds ++ es)) := fun H1 Q s1 k =>
  ha H1 _ s1 fun v H2 s2 d2 => hb H2 _ (s1.trans s2) fun u H3 s3 d3 => by
    cases d2 with
    | tup h1 a1 =>
      cases d3 with
      | tup h2 a2 =>
        refine catT (same_t s3 h1) h2 (by rw [dpa_len a1, dpa_len a2]; exact hl) fun p H4 s4 h4 => ?_
        exact k _ H4 ((s2.trans s3).trans s4) (.tup h4 (dpa_app (dpa_same (s3.trans s4) _ _ a1) (dpa_same s4 _ _ a2)))
/-! ### statements -/
variable {u : TS} {D : Ends}
theorem asgO (h : EvO K te σ H ds) (k : ∀ p vs H1, H p = none → Same H H1 → H1 p = some (.lst vs) → DpAll K H1 vs ds → u D (σ.set i (some (.ref p))) H1) : tSeq (tAsg te (gName i)) u D σ H := h H _ (Same.refl H) fun p vs H1 np s e d => k p vs H1 np s e d
theorem asgD (h : EvD K te σ H d) (k : ∀ v H1, Same H H1 → Dp K H1 v d → u D (σ.set i (some v)) H1) : tSeq (tAsg te (gName i)) u D σ H := h H _ (Same.refl H) fun v H1 s d => k v H1 s d
theorem asgV (h : EvV te σ H v) (k : ∀ H1, Same H H1 → u D (σ.set i (some v)) H1) : tSeq (tAsg te (gName i)) u D σ H := h H _ (Same.refl H) fun H1 s => k H1 s
theorem retD (h : EvD K te σ H d) (k : ∀ v H1, Same H H1 → Dp K H1 v d → D.rt v H1) : tRet te D σ H := h H _ (Same.refl H) fun v H1 s d => k v H1 s d
theorem retV (h : EvV te σ H v) (k : ∀ H1, Same H H1 → D.rt v H1) : tRet te D σ H := h H _ (Same.refl H) fun H1 s => k H1 s
/-! ### the elements of a comprehension: data, none of it by way of the list that is made -/
end
/-- as EvD; what comes does not hang on what stands at D -/
def EvX (K : PySem.W.Frag) (D : Addr) (te : TE) (σ : L2.St) (H : Hp) (d : PyData) : Prop := ∀ H1 (Q : VK), Same H H1 → (∀ v H2, Same H1 H2 → Dp K (erase D H2) v d → Q v H2) → te σ H1 Q
def EvXs (K : PySem.W.Frag) (D : Addr) (ta : TA) (σ : L2.St) (H : Hp) (ds : List PyData) : Prop := ∀ H1 (Q : List V → Hp → Prop), Same H H1 → (∀ vs H2, Same H1 H2 → DpAll K (erase D H2) vs ds → Q vs H2) → ta σ H1 Q
section
variable {K : PySem.W.Frag} {D : Addr} {te ta tb : TE} {tas tr : TA} {σ : L2.St} {H : Hp} {d e : PyData} {ds es : List PyData} {v : V} {i : Nat}
theorem exv (h : EvV te σ H v) (hd : ∀ H2, Same H H2 → Dp K (erase D H2) v d) : EvX K D te σ H d := fun H1 Q s1 k => h H1 Q s1 fun H2 s2 => k v H2 s2 (hd H2 (s1.trans s2))
theorem exv_var (h : σ[i]? = some (some v)) (hd : Dp K (erase D H) v d) : EvX K D (tVar i) σ H d := exv (ev_var h) fun H2 s => dp_same (erase_mono s) _ _ hd
theorem exs_nil : EvXs K D tNil σ H [] := fun H1 Q _ k => k [] H1 (Same.refl H1) .nil
theorem exs_cons (h : EvX K D te σ H d) (hr : EvXs K D tr σ H ds) : EvXs K D (tCons te tr) σ H (d :: ds) := fun H1 Q s1 k => h H1 _ s1 fun v H2 s2 d2 => hr H2 _ (s1.trans s2) fun vs H3 s3 d3 => k _ H3 (s2.trans s3) (.cons (dp_same (erase_mono s3) _ _ d2) d3)
theorem exv_tup (hD : ∃ acc, H D = some (.lst acc)) (h : EvXs K D tas σ H ds) (hl : ds.length ≤ 100000) : EvX K D (tTup tas) σ H (.tuple ds) := fun H1 Q s1 k => h H1 _ s1 fun vs H2 s2 d2 =>
  ⟨by rw [dpa_len d2]; exact Nat.le_trans hl (by decide), fun p np => k _ _ (s2.trans (same_upd np)) (.tup (sqt_erase (by obtain ⟨acc, e⟩ := hD; exact ⟨acc, ((s1.trans s2).trans (same_upd np)) _ _ e⟩) (.inl (.inl upd_same))) (dpa_same (erase_mono (same_upd np)) _ _ d2))⟩
theorem exv_catT (hD : ∃ acc, H D = some (.lst acc)) (ha : EvX K D ta σ H (.tuple ds)) (hb : EvX K D tb σ H (.tuple es)) (hl : ds.length + es.length ≤ 100000) : EvX K D (tOp (rCatA K) ta tb) σ H (.tuple (ds ++ es)) := fun H1 Q s1 k =>
  ha H1 _ s1 fun v H2 s2 d2 => hb H2 _ (s1.trans s2) fun u H3 s3 d3 => by
    cases d2 with
    | tup h1 a1 =>
      cases d3 with
      | tup h2 a2 =>
        obtain ⟨acc, e⟩ := hD
        refine catT (same_t ((erase_same D H2).trans s3) h1) (same_t (erase_same D H3) h2) (by rw [dpa_len a1, dpa_len a2]; exact hl) fun p H4 s4 h4 => ?_
        exact k _ H4 ((s2.trans s3).trans s4) (.tup (sqt_erase ⟨acc, (((s1.trans s2).trans s3).trans s4) _ _ e⟩ h4) (dpa_app (dpa_same (erase_mono (s3.trans s4)) _ _ a1) (dpa_same (erase_mono s4) _ _ a2)))
end
/-! ### slices -/
section
variable {K : PySem.W.Frag} {te ta tb : TE} {σ : L2.St} {H : Hp} {ds : List PyData} {n : Int}
theorem evd_take (h : EvD K te σ H (.tuple ds)) (hn : EvV ta σ H (.int n)) (h0 : 0 ≤ n) (h1 : n ≤ ds.length) : EvD K (tSl (rSlA K) te tNoPart (tPart ta)) σ H (.tuple (ds.take n.toNat)) := fun H1 Q s1 k =>
  h H1 _ s1 fun v H2 s2 d2 => hn H2 _ (s1.trans s2) fun H3 s3 => ⟨n, rfl, by
    cases d2 with
    | tup hs ha =>
      refine slT_take (same_t s3 hs) h0 (by rw [dpa_len ha]; exact h1) fun p H4 s4 h4 => ?_
      exact k _ H4 ((s2.trans s3).trans s4) (.tup h4 (dpa_take (dpa_same (s3.trans s4) _ _ ha)))⟩
theorem evd_drop (h : EvD K te σ H (.tuple ds)) (hn : EvV ta σ H (.int n)) (h0 : 0 ≤ n) (h1 : n ≤ ds.length) : EvD K (tSl (rSlA K) te (tPart ta) tNoPart) σ H (.tuple (ds.drop n.toNat)) := fun H1 Q s1 k =>
  h H1 _ s1 fun v H2 s2 d2 => hn H2 _ (s1.trans s2) fun H3 s3 => ⟨n, rfl, by
    cases d2 with
    | tup hs ha =>
      refine slT_drop (same_t s3 hs) h0 (by rw [dpa_len ha]; exact h1) fun p H4 s4 h4 => ?_
      exact k _ H4 ((s2.trans s3).trans s4) (.tup h4 (dpa_drop (dpa_same (s3.trans s4) _ _ ha)))⟩
end
section
variable {K : PySem.W.Frag} {D : Addr} {te ta tb : TE} {σ : L2.St} {H : Hp} {ds : List PyData} {n : Int}
theorem exv_take (hD : ∃ acc, H D = some (.lst acc)) (h : EvX K D te σ H (.tuple ds)) (hn : EvV ta σ H (.int n)) (h0 : 0 ≤ n) (h1 : n ≤ ds.length) : EvX K D (tSl (rSlA K) te tNoPart (tPart ta)) σ H (.tuple (ds.take n.toNat)) := fun H1 Q s1 k =>
  h H1 _ s1 fun v H2 s2 d2 => hn H2 _ (s1.trans s2) fun H3 s3 => ⟨n, rfl, by
    cases d2 with
    | tup hs ha =>
      obtain ⟨acc, e⟩ := hD
      refine slT_take (same_t ((erase_same D H2).trans s3) hs) h0 (by rw [dpa_len ha]; exact h1) fun p H4 s4 h4 => ?_
      exact k _ H4 ((s2.trans s3).trans s4) (.tup (sqt_erase ⟨acc, (((s1.trans s2).trans s3).trans s4) _ _ e⟩ h4) (dpa_take (dpa_same (erase_mono (s3.trans s4)) _ _ ha)))⟩
theorem exv_drop (hD : ∃ acc, H D = some (.lst acc)) (h : EvX K D te σ H (.tuple ds)) (hn : EvV ta σ H (.int n)) (h0 : 0 ≤ n) (h1 : n ≤ ds.length) : EvX K D (tSl (rSlA K) te (tPart ta) tNoPart) σ H (.tuple (ds.drop n.toNat)) := fun H1 Q s1 k =>
  h H1 _ s1 fun v H2 s2 d2 => hn H2 _ (s1.trans s2) fun H3 s3 => ⟨n, rfl, by
    cases d2 with
    | tup hs ha =>
      obtain ⟨acc, e⟩ := hD
      refine slT_drop (same_t ((erase_same D H2).trans s3) hs) h0 (by rw [dpa_len ha]; exact h1) fun p H4 s4 h4 => ?_
      exact k _ H4 ((s2.trans s3).trans s4) (.tup (sqt_erase ⟨acc, (((s1.trans s2).trans s3).trans s4) _ _ e⟩ h4) (dpa_drop (dpa_same (erase_mono (s3.trans s4)) _ _ ha)))⟩
theorem dpa_rep {K : PySem.W.Frag} {H : Hp} {vs : List V} {ds : List PyData} (h : DpAll K H vs ds) : ∀ n : Nat, DpAll K H (List.replicate n vs).flatten (List.replicate n ds).flatten
  | 0 => .nil
  | n + 1 => by
    rw [List.replicate_succ, List.replicate_succ, List.flatten_cons, List.flatten_cons]
    exact dpa_app h (dpa_rep h n)
theorem evd_repT {m : Int} (h : EvD K ta σ H (.tuple ds)) (hn : EvV tb σ H (.int m)) (h0 : ds ≠ []) (h1 : 2 ≤ m) (h2 : m ≤ 1000) (h3 : ds.length ≤ 1000) : EvD K (tOp (rRepT K) ta tb) σ H (.tuple (List.replicate m.toNat ds).flatten) := fun H1 Q s1 k =>
  h H1 _ s1 fun v H2 s2 d2 => hn H2 _ (s1.trans s2) fun H3 s3 => by
    cases d2 with
    | tup hs ha =>
      have hl := dpa_len ha
      refine ⟨_, m, _, rfl, rfl, same_t s3 hs, fun z => h0 ?_, h1, h2, by omega, fun p np => k _ _ ((s2.trans s3).trans (same_upd np)) (.tup (.inl (.inl upd_same)) (dpa_rep (dpa_same (s3.trans (same_upd np)) _ _ ha) _))⟩
      rw [z] at hl
      exact List.length_eq_zero_iff.mp hl.symm
end
/-! ### tests -/
def EvB (tt : TT) (σ : L2.St) (H : Hp) (b : Bool) : Prop := ∀ H1 (R : Bool → Hp → Prop), Same H H1 → (∀ H2, Same H1 H2 → R b H2) → tt σ H1 R
section
variable {K : PySem.W.Frag} {te ta tb : TE} {tt tu : TT} {tas tr : TA} {σ : L2.St} {H H' : Hp} {d e : PyData} {ds es : List PyData} {v x y : V} {i : Nat} {a b : Bool} {u w : TS} {D : Ends}
theorem EvB.mono (s : Same H H') (h : EvB tt σ H b) : EvB tt σ H' b := fun H1 Q s1 k => h H1 Q (s.trans s1) k
theorem EvB.is (h : EvB tt σ H a) (e : a = b) : EvB tt σ H b := e ▸ h
theorem EvV.is (h : EvV te σ H x) (e : x = y) : EvV te σ H y := e ▸ h
theorem evb_test (h : EvV te σ H (.bl b)) : EvB (tTest te) σ H b := fun H1 R s1 k => h H1 _ s1 fun H2 s2 => ⟨b, rfl, k H2 s2⟩
theorem evb_b (h : EvV te σ H (.bl b)) : EvB (tB te) σ H b := fun H1 R s1 k => h H1 _ s1 fun H2 s2 => ⟨b, rfl, k H2 s2⟩
theorem evb_not (h : EvB tt σ H a) : EvB (tNot tt) σ H (!a) := fun H1 R s1 k => h H1 _ s1 fun H2 s2 => k H2 s2
theorem evb_or (h : EvB tt σ H a) (h2 : a = false → EvB tu σ H b) : EvB (tOr tt tu) σ H (a || b) := fun H1 R s1 k => h H1 _ s1 fun H2 s2 => by
  cases a with
  | true => exact iteT (k H2 s2)
  | false => exact iteF (h2 rfl H2 R (s1.trans s2) fun H3 s3 => k H3 (s2.trans s3))
theorem evb_and (h : EvB tt σ H a) (h2 : a = true → EvB tu σ H b) : EvB (tAnd tt tu) σ H (a && b) := fun H1 R s1 k => h H1 _ s1 fun H2 s2 => by
  cases a with
  | true => exact iteT (h2 rfl H2 R (s1.trans s2) fun H3 s3 => k H3 (s2.trans s3))
  | false => exact iteF (k H2 s2)
theorem ev_and (h : EvV ta σ H (.bl a)) (h2 : a = true → EvV tb σ H (.bl b)) : EvV (tAndV ta tb) σ H (.bl (a && b)) := fun H1 Q s1 k => h H1 _ s1 fun H2 s2 => ⟨a, rfl, by
  cases a with
  | true => exact iteT (h2 rfl H2 Q (s1.trans s2) fun H3 s3 => k H3 (s2.trans s3))
  | false => exact iteF (k H2 s2)⟩
theorem ev_or (h : EvV ta σ H (.bl a)) (h2 : a = false → EvV tb σ H (.bl b)) : EvV (tOrV ta tb) σ H (.bl (a || b)) := fun H1 Q s1 k => h H1 _ s1 fun H2 s2 => ⟨a, rfl, by
  cases a with
  | true => exact iteT (k H2 s2)
  | false => exact iteF (h2 rfl H2 Q (s1.trans s2) fun H3 s3 => k H3 (s2.trans s3))⟩
theorem ev_not (h : EvV ta σ H (.bl a)) : EvV (tNotV ta) σ H (.bl (!a)) := fun H1 Q s1 k => h H1 _ s1 fun H2 s2 => ⟨a, rfl, k H2 s2⟩
theorem ev_chain {C C' : Int → Int → Prop} {f f' : Int → Int → Bool} {tc : TE} {n m q : Int} (ha : EvV ta σ H (.int n)) (hb : EvV tb σ H (.int m)) (hc : EvV tc σ H (.int q)) : EvV (tChain (rI0 fun i j => .bl (f i j)) (rI0 fun i j => .bl (f' i j)) ta tb tc) σ H (.bl (f n m && f' m q)) := fun H1 Q s1 k =>
  ha H1 _ s1 fun H2 s2 => hb H2 _ (s1.trans s2) fun H3 s3 => ⟨n, m, rfl, rfl, f n m, rfl, by
    cases e : f n m with
    | true =>
      rw [e] at k
      exact iteT (hc H3 _ ((s1.trans s2).trans s3) fun H4 s4 => ⟨m, q, rfl, rfl, k H4 ((s2.trans s3).trans s4)⟩)
    | false =>
      rw [e] at k
      exact iteF (k H3 (s2.trans s3))⟩
theorem ev_is {U : String} (h : EvD K te σ H d) (hU : U ∈ ["int", "bool", "tuple", "list"]) : EvV (tCB (rIsD K) (tCons te (tCons (tC (.ty U)) tNil))) σ H (.bl (isD d U)) := fun H1 Q s1 k => h H1 _ s1 fun v H2 s2 d2 => ⟨v, d, U, rfl, d2, hU, k H2 s2⟩
theorem ev_ne (ha : EvD K ta σ H d) (hb : EvD K tb σ H e) (hd : SeqAt.shaped d = true) (he : SeqAt.shaped e = true) : EvV (tOp (rNeD K) ta tb) σ H (.bl (!PyData.eqv d e)) := fun H1 Q s1 k =>
  ha H1 _ s1 fun v H2 s2 d2 => hb H2 _ (s1.trans s2) fun u H3 s3 d3 => ⟨d, e, dp_same s3 _ _ d2, d3, hd, he, k H3 (s2.trans s3)⟩
theorem ev_eq (ha : EvD K ta σ H d) (hb : EvD K tb σ H e) (hd : SeqAt.shaped d = true) (he : SeqAt.shaped e = true) : EvV (tOp (rEqD K) ta tb) σ H (.bl (PyData.eqv d e)) := fun H1 Q s1 k =>
  ha H1 _ s1 fun v H2 s2 d2 => hb H2 _ (s1.trans s2) fun u H3 s3 d3 => ⟨d, e, dp_same s3 _ _ d2, d3, hd, he, k H3 (s2.trans s3)⟩
theorem ev_all {bs : List Bool} (h : EvD K te σ H (.list (bs.map PyData.bool))) : EvV (tCB (rAll K) (tCons te tNil)) σ H (.bl (bs.all id)) := fun H1 Q s1 k => h H1 _ s1 fun v H2 s2 d2 => by
  cases d2 with
  | lst hs ha =>
    rw [dpa_bools ha] at hs
    exact ⟨_, bs, rfl, hs, k H2 s2⟩
theorem ev_lenT (h : EvD K te σ H (.tuple ds)) : EvV (tCB (rLenK K) (tCons te tNil)) σ H (.int (ds.length : Int)) := fun H1 Q s1 k => h H1 _ s1 fun v H2 s2 d2 => by
  cases d2 with
  | tup hs ha => exact ⟨_, _, rfl, .inr hs, by rw [dpa_len ha]; exact k H2 s2⟩
theorem ev_lenL (h : EvD K te σ H (.list ds)) : EvV (tCB (rLenK K) (tCons te tNil)) σ H (.int (ds.length : Int)) := fun H1 Q s1 k => h H1 _ s1 fun v H2 s2 d2 => by
  cases d2 with
  | lst hs ha => exact ⟨_, _, rfl, .inl hs, by rw [dpa_len ha]; exact k H2 s2⟩
theorem ev_sumT {ns : List Int} (h : EvD K te σ H (.tuple (ns.map PyData.int))) : EvV (tCB (rSumT K) (tCons te tNil)) σ H (.int ns.sum) := fun H1 Q s1 k => h H1 _ s1 fun v H2 s2 d2 => by
  cases d2 with
  | tup hs ha =>
    rw [dpa_ints_eq ha] at hs
    exact ⟨_, ns, rfl, hs, k H2 s2⟩
/-! ### a step of a body -/
theorem ifNo (h : EvB tt σ H false) (k : ∀ H1, Same H H1 → u D σ H1) : tSeq (tIfS tt w tNext) u D σ H := h H _ (Same.refl H) fun H1 s => iteF (k H1 s)
theorem dropD (h : EvD K te σ H d) (k : ∀ H1, Same H H1 → u D σ H1) : tSeq (tDrop te) u D σ H := h H _ (Same.refl H) fun _ H1 s _ => k H1 s
theorem dropV (h : EvV te σ H v) (k : ∀ H1, Same H H1 → u D σ H1) : tSeq (tDrop te) u D σ H := h H _ (Same.refl H) fun H1 s => k H1 s
/-! ### calls -/
theorem evd_call {sp : Sp} (h : EvDs K tas σ H ds) (hsp : ∀ vs H1 (Q : VK), Same H H1 → DpAll K H1 vs ds → (∀ v H2, Same H1 H2 → Dp K H2 v d → Q v H2) → sp vs H1 Q E0) : EvD K (tCall sp [] E0 tas) σ H d := fun H1 Q s1 k => h H1 _ s1 fun vs H2 s2 d2 => by
  show sp (vs ++ []) H2 Q E0
  rw [List.append_nil]
  exact hsp vs H2 Q (s1.trans s2) d2 fun v H3 s3 d3 => k v H3 (s2.trans s3) d3
theorem evv_call {sp : Sp} (h : EvDs K tas σ H ds) (hsp : ∀ vs H1 (Q : VK), Same H H1 → DpAll K H1 vs ds → (∀ H2, Same H1 H2 → Q v H2) → sp vs H1 Q E0) : EvV (tCall sp [] E0 tas) σ H v := fun H1 Q s1 k => h H1 _ s1 fun vs H2 s2 d2 => by
  show sp (vs ++ []) H2 Q E0
  rw [List.append_nil]
  exact hsp vs H2 Q (s1.trans s2) d2 fun H3 s3 => k H3 (s2.trans s3)
theorem evo_call {sp : Sp} (h : EvDs K tas σ H ds) (hsp : ∀ vs H1 (Q : VK), Same H H1 → DpAll K H1 vs ds → (∀ p us H2, H1 p = none → Same H1 H2 → H2 p = some (.lst us) → DpAll K H2 us es → Q (.ref p) H2) → sp vs H1 Q E0) : EvO K (tCall sp [] E0 tas) σ H es := fun H1 Q s1 k => h H1 _ s1 fun vs H2 s2 d2 => by
  show sp (vs ++ []) H2 Q E0
  rw [List.append_nil]
  exact hsp vs H2 Q (s1.trans s2) d2 fun p us H3 n3 s3 e3 d3 => k p us H3 (s2.free n3) (s2.trans s3) e3 d3
/-! ### a comprehension over a tuple, over a range -/
theorem evo_lcT {j : Nat} {w : PyData} (keep : PyData → Bool) (g : PyData → PyData) (hs : EvD K te σ H (.tuple ds)) (hz : ds.length ≤ 100000)
    (ht : ∀ x d H1 (R : Bool → Hp → Prop), d ∈ ds → Same H H1 → Dp K H1 x d → (∀ H2, Same H1 H2 → R (keep d) H2) → tt ((wipe σ [j]).set j (some x)) H1 R)
    (he : ∀ x d H1 D (R : VK), d ∈ ds → keep d = true → Same H H1 → Dp K (erase D H1) x d → (∃ acc, H1 D = some (.lst acc)) → Same H (erase D H1) → (∀ y H2, Same H1 H2 → Dp K (erase D H2) y (g d) → R y H2) → tb ((wipe σ [j]).set j (some x)) H1 R) :
    EvO K (tLc (iTup K te) (gName j) tt tb [j]) σ H ((ds.filter keep).map g) := fun H1 Q s1 k => by
  show te σ H1 fun x H1 => tLc (iTup K (tC x)) (gName j) tt tb [j] σ H1 Q
  refine hs H1 _ s1 fun v H2 s2 d2 => ?_
  cases d2 with
  | tup hq d2 =>
  rename_i p vs
  have hl := dpa_len d2
  refine lc_dpT (fun n => keep (ds.getD n w)) (fun n => g (ds.getD n w)) (fun R h => h) hq (by omega) (fun n x H3 R e3 s3 k3 => ?_) (fun n x H3 D R e3 kp hD hacc s3 k3 => ?_) (fun D acc H3 hD s3 e3 d3 => ?_)
  · obtain ⟨d, ed, hx⟩ := dpa_get2 d2 e3
    rw [getD_of ed] at k3
    exact ht x d H3 R (List.mem_of_getElem? ed) ((s1.trans s2).trans s3) (dp_same s3 _ _ hx) k3
  · obtain ⟨d, ed, hx⟩ := dpa_get2 d2 e3
    rw [getD_of ed] at k3 kp
    exact he x d H3 D R (List.mem_of_getElem? ed) kp ((s1.trans s2).trans s3) (dp_same (same_erase s3 hD) _ _ hx) hacc ((s1.trans s2).trans (same_erase s3 hD)) k3
  · refine k D acc H3 (s2.free hD) (s2.trans s3) e3 ?_
    have e0 : (List.range ds.length).map (fun n => ds.getD n w) = ds := by
      have := range_get ds (fun d => d) w
      rw [List.map_id'] at this
      exact this
    have ez : ((List.range vs.length).filter fun n => keep (ds.getD n w)).map (fun n => g (ds.getD n w)) = (ds.filter keep).map g := by
      rw [hl]
      calc ((List.range ds.length).filter fun n => keep (ds.getD n w)).map (fun n => g (ds.getD n w))
          = (((List.range ds.length).filter (keep ∘ fun n => ds.getD n w)).map (fun n => ds.getD n w)).map g := by rw [List.map_map]; rfl
        _ = (((List.range ds.length).map (fun n => ds.getD n w)).filter keep).map g := by rw [List.filter_map]
        _ = (ds.filter keep).map g := by rw [e0]
    rw [ez] at d3
    exact d3
theorem evo_lcR {j m : Nat} (keep : Nat → Bool) (g : Nat → PyData) (hs : EvV te σ H (.int (m : Int))) (hz : m ≤ 100000)
    (ht : ∀ n H1 (R : Bool → Hp → Prop), n < m → Same H H1 → (∀ H2, Same H1 H2 → R (keep n) H2) → tt ((wipe σ [j]).set j (some (.int (n : Int)))) H1 R)
    (he : ∀ n H1 D (R : VK), n < m → keep n = true → Same H H1 → (∃ acc, H1 D = some (.lst acc)) → Same H (erase D H1) → (∀ y H2, Same H1 H2 → Dp K (erase D H2) y (g n) → R y H2) → tb ((wipe σ [j]).set j (some (.int (n : Int)))) H1 R) :
    EvO K (tLc (iRng1 (tCons te tNil)) (gName j) tt tb [j]) σ H (((List.range m).filter keep).map g) := fun H1 Q s1 k => by
  show te σ H1 fun x H1 => tLc (iRng1 (tCons (tC x) tNil)) (gName j) tt tb [j] σ H1 Q
  refine hs H1 _ s1 fun H2 s2 => ?_
  refine lc_dpR (K := K) (m := m) keep g (fun R h => h) hz (fun n H3 R e3 s3 k3 => ht n H3 R e3 ((s1.trans s2).trans s3) k3) (fun n H3 D R e3 kp hD hacc s3 k3 => he n H3 D R e3 kp ((s1.trans s2).trans s3) hacc ((s1.trans s2).trans (same_erase s3 hD)) k3) (fun D acc H3 hD s3 e3 d3 => ?_)
  exact k D acc H3 (s2.free hD) (s2.trans s3) e3 d3
end
/-! ### data that == may be asked of -/
def ShN (n : Nat) (d : PyData) : Prop := d.canLay0 = true ∧ d.depth ≤ n
theorem ShN.ok {n : Nat} {d : PyData} (h : ShN n d) (hn : n ≤ 64) : SeqAt.shaped d = true := by
  show (d.canLay0 && decide (d.depth ≤ 64)) = true
  rw [h.1, decide_eq_true (Nat.le_trans h.2 hn)]
  rfl
theorem sh_int {n : Nat} (i : Int) : ShN n (.int i) := ⟨by simp only [PyData.canLay0], by simp only [PyData.depth]; exact Nat.zero_le n⟩
theorem sh_bool {n : Nat} (b : Bool) : ShN n (.bool b) := ⟨by simp only [PyData.canLay0], by simp only [PyData.depth]; exact Nat.zero_le n⟩
theorem sh_none {n : Nat} : ShN n .none := ⟨by simp only [PyData.canLay0], by simp only [PyData.depth]; exact Nat.zero_le n⟩
theorem sh_all {n : Nat} : ∀ {ds : List PyData}, (∀ d ∈ ds, ShN n d) → PyData.canLayAll0 ds = true ∧ PyData.depthAll ds ≤ n
  | [], _ => ⟨by simp only [PyData.canLayAll0], by simp only [PyData.depthAll]; exact Nat.zero_le n⟩
  | d :: ds, h => by
    have h1 := h d List.mem_cons_self
    have h2 := sh_all fun e he => h e (List.mem_cons_of_mem _ he)
    refine ⟨?_, ?_⟩
    · simp only [PyData.canLayAll0, h1.1, h2.1, Bool.and_self]
    · simp only [PyData.depthAll]
      exact Nat.max_le.mpr ⟨h1.2, h2.2⟩
theorem sh_tup {n : Nat} {ds : List PyData} (h : ∀ d ∈ ds, ShN n d) : ShN (n + 1) (.tuple ds) := by
  have h2 := sh_all h
  exact ⟨by simp only [PyData.canLay0, h2.1], by simp only [PyData.depth]; exact Nat.succ_le_succ h2.2⟩
theorem sh_lst {n : Nat} {ds : List PyData} (h : ∀ d ∈ ds, ShN n d) : ShN (n + 1) (.list ds) := by
  have h2 := sh_all h
  exact ⟨by simp only [PyData.canLay0, h2.1], by simp only [PyData.depth]; exact Nat.succ_le_succ h2.2⟩
theorem sh_ints {n : Nat} {ns : List Int} : ∀ d ∈ ns.map PyData.int, ShN n d := fun d hd => by
  obtain ⟨i, _, rfl⟩ := List.mem_map.mp hd
  exact sh_int i
theorem sh_plan {cs : List Int} {g : Int} : ShN 2 (planD cs g) := sh_tup fun d hd => by
  simp only [List.mem_cons, List.not_mem_nil, or_false] at hd
  rcases hd with rfl | rfl
  · exact sh_tup sh_ints
  · exact sh_int g
theorem eqv_self {n : Nat} {d : PyData} (h : ShN n d) : PyData.eqv d d = true := SeqAt.eqv_refl d h.1
/-! ### a def that may raise, called where it does not -/
theorem passN {X : Cx} : Passes (L2N.CX X.prog X.w) X E0 := fun _ _ _ _ _ _ _ h => by
  obtain ⟨_, _, _, _, _, _, _, _, _, _, _, _, z⟩ := h
  exact z.elim
section
variable {X : Cx} {k : Nat} {x : Str} {ps : List Str} {sp : Sp} {e : Expr} {es : List Expr} {t : TA} {p pos : Pos}
theorem pe_fN (C : Cal X.prog X.w X.K X.mg X.base (L2N.CX X.prog X.w) k x ps sp) (hr : Room k X.A) (ha : PA X (e :: es) t) (hg : Gl X x := by rfl) (hdb : (x == ("__debug__" : Str)) = false := by decide)
    (he : starEach (e :: es) X.env = (false, eval e X.env) :: starEach es X.env := by rfl) (hpl : (backTo pos (starEach es X.env)).any (·.1) = false := by rfl) :
    PE X (.Call (.Name x p) (e :: es) [] pos) (tCall sp [] E0 t) := by
  obtain ⟨f, fd, F, hm, hk, hb⟩ := C.ex
  exact pe_call F hr hg hm hk hb .nil passN ha hdb he hpl
end
section
variable {K : PySem.W.Frag} {tas : TA} {σ : L2.St} {H : Hp} {d : PyData} {ds : List PyData}
theorem evd_X {n : Nat} {f : List PyData → Except Err PyData} (h : EvDs K tas σ H ds) (hl : ds.length = n) (hf : f ds = .ok d) : EvD K (tCall (PSpX K n f) [] E0 tas) σ H d :=
  evd_call h fun vs H1 Q s1 d1 k => ⟨ds, d1, hl, fun r hr v H2 s2 d2 => k v H2 s2 (by rw [hf] at hr; cases hr; exact d2), fun e he => by rw [hf] at he; cases he⟩
end
/-! ### more of expressions -/
def isNone : PyData → Bool
  | .none => true
  | _ => false
section
variable {K : PySem.W.Frag} {te ta tb : TE} {tt : TT} {tas tr : TA} {σ : L2.St} {H H' : Hp} {d e : PyData} {ds es : List PyData} {v x y : V} {i j : Nat} {u w tw : TS} {D : Ends} {n : Int} {cs : List Int}
theorem dp_isNone (h : Dp K H v d) : decide (v = .non) = isNone d := by
  cases h with
  | non => rfl
  | _ => exact decide_eq_false fun z => nomatch z
theorem ev_isN (h : EvD K te σ H d) : EvV (tOp (fun x y H Q => y = V.non ∧ Q (V.bl (decide (x = V.non))) H) te (tC .non)) σ H (.bl (isNone d)) := fun H1 Q s1 k => h H1 _ s1 fun v H2 s2 d2 => ⟨rfl, by rw [dp_isNone d2]; exact k H2 s2⟩
theorem ev_notN (h : EvD K te σ H d) : EvV (tOp (fun x y H Q => y = V.non ∧ Q (V.bl (!decide (x = V.non))) H) te (tC .non)) σ H (.bl (!isNone d)) := fun H1 Q s1 k => h H1 _ s1 fun v H2 s2 d2 => ⟨rfl, by rw [dp_isNone d2]; exact k H2 s2⟩
theorem evo_takeL (h : EvD K te σ H (.list ds)) (hn : EvV ta σ H (.int n)) (h0 : 0 ≤ n) (h1 : n ≤ ds.length) : EvO K (tSl (rSlL K) te tNoPart (tPart ta)) σ H (ds.take n.toNat) := fun H1 Q s1 k =>
  h H1 _ s1 fun v H2 s2 d2 => hn H2 _ (s1.trans s2) fun H3 s3 => ⟨n, rfl, by
    cases d2 with
    | lst hs ha => exact ⟨_, _, rfl, s3.seq hs, fun p np => k p _ _ ((s2.trans s3).free np) ((s2.trans s3).trans (same_upd np)) upd_same (by
        rw [cut_take h0 (by rw [dpa_len ha]; exact h1)]
        exact dpa_take (dpa_same (s3.trans (same_upd np)) _ _ ha))⟩⟩
theorem evo_dropL (h : EvD K te σ H (.list ds)) (hn : EvV ta σ H (.int n)) (h0 : 0 ≤ n) (h1 : n ≤ ds.length) : EvO K (tSl (rSlL K) te (tPart ta) tNoPart) σ H (ds.drop n.toNat) := fun H1 Q s1 k =>
  h H1 _ s1 fun v H2 s2 d2 => hn H2 _ (s1.trans s2) fun H3 s3 => ⟨n, rfl, by
    cases d2 with
    | lst hs ha => exact ⟨_, _, rfl, s3.seq hs, fun p np => k p _ _ ((s2.trans s3).free np) ((s2.trans s3).trans (same_upd np)) upd_same (by
        rw [cut_drop h0 (by rw [dpa_len ha]; exact h1)]
        exact dpa_drop (dpa_same (s3.trans (same_upd np)) _ _ ha))⟩⟩
theorem evo_rep (h : EvK K ta σ H ds) (hn : EvV tb σ H (.int n)) (h0 : -1000000 ≤ n) (h1 : n ≤ 100000) (hl : ds.length * n.toNat ≤ 100000) : EvO K (tOp rRep ta tb) σ H (List.replicate n.toNat ds).flatten := fun H1 Q s1 k =>
  h H1 _ s1 fun p vs H2 s2 e2 d2 => hn H2 _ (s1.trans s2) fun H3 s3 => ⟨p, n, vs, rfl, rfl, s3 _ _ e2, by omega, by omega, by rw [dpa_len d2]; exact Nat.le_trans hl (by decide), fun l nl =>
    k l _ _ ((s2.trans s3).free nl) ((s2.trans s3).trans (same_upd nl)) upd_same (dpa_rep (dpa_same (s3.trans (same_upd nl)) _ _ d2) _)⟩
theorem evd_takeI (h : EvD K te σ H (.tuple (cs.map PyData.int))) (hn : EvV ta σ H (.int n)) (h0 : 0 ≤ n) (h1 : n ≤ cs.length) : EvD K (tSl (rSlA K) te tNoPart (tPart ta)) σ H (.tuple ((cs.take n.toNat).map PyData.int)) := by
  rw [List.map_take]
  exact evd_take h hn h0 (by rw [List.length_map]; exact h1)
theorem EvD.is (h : EvD K te σ H d) (q : d = e) : EvD K te σ H e := q ▸ h
theorem EvO.is (h : EvO K te σ H ds) (q : ds = es) : EvO K te σ H es := q ▸ h
/-- a for over a list that stays -/
theorem forL {a : Addr} {xs : List V} (he : EvV te σ H (.ref a)) (hx : SqL K H a xs) (Pv : Nat → L2.St → Hp → Prop) (h0 : ∀ H1, Same H H1 → Pv 0 σ H1) (hl : ∀ i σ' H', Pv i σ' H' → SqL K H' a xs)
    (hs : ∀ i x σ' H', xs[i]? = some x → Pv i σ' H' → tw { nx := Pv (i + 1), rt := D.rt, bk := u D, ct := Pv (i + 1) } (σ'.set j (some x)) H') (hd : ∀ σ' H', Pv xs.length σ' H' → u D σ' H') : tSeq (tFor (iList K te) (gName j) tw) u D σ H :=
  he H _ (Same.refl H) fun H1 s1 => ⟨a, rfl, ⟨xs, s1.seq hx⟩, for_list (K := K) (a := a) (xs := xs) (D := { D with nx := u D }) Pv (h0 H1 s1) (fun i σ' H' _ p => hl i σ' H' p) (fun i x σ' H' e p => hs i x σ' H' e p) hd⟩
theorem asgLast (h : EvV te σ H v) (k : ∀ H1, Same H H1 → D.nx (σ.set i (some v)) H1) : tAsg te (gName i) D σ H := h H _ (Same.refl H) fun H1 s => k H1 s
theorem asgLastD (h : EvD K te σ H d) (k : ∀ v H1, Same H H1 → Dp K H1 v d → D.nx (σ.set i (some v)) H1) : tAsg te (gName i) D σ H := h H _ (Same.refl H) fun v H1 s d => k v H1 s d
end
/-! ### the plan behind some signs -/
def after (cs : List Int) (g : Int) (ss : List Int) : List Int := ss.foldl (fun c s => grown c g s) cs
theorem after_snoc (cs : List Int) (g : Int) (ss : List Int) (s : Int) : after cs g (ss ++ [s]) = grown (after cs g ss) g s := by
  unfold after
  rw [List.foldl_append]
  rfl
theorem after_ok {cs : List Int} {g : Int} (p : Plan cs g) : ∀ {ss : List Int}, (∀ s ∈ ss, 0 ≤ s ∧ s < cs.length) → Plan (after cs g ss) g ∧ (after cs g ss).length = cs.length := by
  intro ss
  induction ss generalizing cs with
  | nil => exact fun _ => ⟨p, rfl⟩
  | cons s r ih =>
    intro h
    have h1 := h s List.mem_cons_self
    have h2 := ih (p.grown h1.1 h1.2) fun t ht => by
      rw [grown_len]
      exact h t (List.mem_cons_of_mem _ ht)
    exact ⟨h2.1, h2.2.trans (grown_len ..)⟩
theorem take_snoc {α : Type} {l : List α} {i : Nat} {x : α} (h : l[i]? = some x) : l.take (i + 1) = l.take i ++ [x] := by
  rw [List.take_add_one, h]
  rfl
end Pl

namespace Pl
open PySem PySem.Spec PyProof.Rows L2
/-! ### stretches -/
structure S3 where
  l : Int
  w : Int
  t : Int
def S3.d (s : S3) : PyData := .tuple [.int s.l, .int s.w, .int s.t]
def S3.by (s : S3) (b c q : Int) : S3 := ⟨s.l * q + s.w * b, s.w * c, s.t * q⟩
def whole3 : S3 := ⟨0, 1, 1⟩
/-- a stretch, all of it below 2 ^ n -/
structure S3.Ok (s : S3) (n : Nat) : Prop where
  l0 : 0 ≤ s.l
  w1 : 1 ≤ s.w
  lw : s.l + s.w ≤ s.t
  tn : s.t < 2 ^ n
theorem whole_ok : whole3.Ok 1 := ⟨by decide, by decide, by decide, by decide⟩
theorem pow_nat (n : Nat) : ((2 ^ n : Nat) : Int) = 2 ^ n := by
  rw [Int.natCast_pow]
  rfl
theorem abs_lt {i : Int} {n : Nat} (h0 : 0 ≤ i) (h : i < 2 ^ n) : i.natAbs < 2 ^ n := by
  have e := pow_nat n
  omega
theorem S3.Ok.t1 {s : S3} {n : Nat} (h : s.Ok n) : 1 ≤ s.t := by
  have := h.l0; have := h.w1; have := h.lw
  omega
theorem S3.Ok.labs {s : S3} {n : Nat} (h : s.Ok n) : s.l.natAbs < 2 ^ n := abs_lt h.l0 (by have := h.w1; have := h.lw; have := h.tn; omega)
theorem S3.Ok.wabs {s : S3} {n : Nat} (h : s.Ok n) : s.w.natAbs < 2 ^ n := abs_lt (by have := h.w1; omega) (by have := h.l0; have := h.lw; have := h.tn; omega)
theorem S3.Ok.tabs {s : S3} {n : Nat} (h : s.Ok n) : s.t.natAbs < 2 ^ n := abs_lt (by have := h.t1; omega) h.tn
theorem S3.Ok.lwabs {s : S3} {n : Nat} (h : s.Ok n) : (s.l + s.w).natAbs < 2 ^ n := abs_lt (by have := h.l0; have := h.w1; omega) (by have := h.lw; have := h.tn; omega)
theorem pow_mono {m n : Nat} (h : m ≤ n) : (2 : Int) ^ m ≤ 2 ^ n := by
  rw [← pow_nat, ← pow_nat]
  exact Int.ofNat_le.mpr (Nat.pow_le_pow_right (by decide) h)
theorem S3.Ok.mono {s : S3} {m n : Nat} (h : s.Ok m) (hn : m ≤ n) : s.Ok n := ⟨h.l0, h.w1, h.lw, Int.lt_of_lt_of_le h.tn (pow_mono hn)⟩
/-- what a share is: below, count, total -/
structure Share (b c q : Int) : Prop where
  b0 : 0 ≤ b
  c1 : 1 ≤ c
  bc : b + c ≤ q
  q8 : q ≤ 8000000
theorem S3.Ok.by_ok {s : S3} {n : Nat} {b c q : Int} (h : s.Ok n) (hs : Share b c q) : (s.by b c q).Ok (n + 23) := by
  have l0 := h.l0; have w1 := h.w1; have lw := h.lw; have tn := h.tn; have t1 := h.t1
  have b0 := hs.b0; have c1 := hs.c1; have bc := hs.bc; have q8 := hs.q8
  have m1 : 0 ≤ s.l * q := Int.mul_nonneg l0 (by omega)
  have m2 : 0 ≤ s.w * b := Int.mul_nonneg (by omega) b0
  have m3 : s.w * 1 ≤ s.w * c := Int.mul_le_mul_of_nonneg_left c1 (by omega)
  have m4 : s.w * (b + c) ≤ s.w * q := Int.mul_le_mul_of_nonneg_left bc (by omega)
  have m5 : (s.l + s.w) * q ≤ s.t * q := Int.mul_le_mul_of_nonneg_right lw (by omega)
  have m6 : s.t * q ≤ s.t * 8000000 := Int.mul_le_mul_of_nonneg_left q8 (by omega)
  rw [Int.mul_add] at m4
  rw [Int.add_mul] at m5
  have e : (2 : Int) ^ (n + 23) = 2 ^ n * 8388608 := by rw [Int.pow_add]; rfl
  refine ⟨?_, ?_, ?_, ?_⟩
  · show 0 ≤ s.l * q + s.w * b
    omega
  · show 1 ≤ s.w * c
    omega
  · show s.l * q + s.w * b + s.w * c ≤ s.t * q
    omega
  · show s.t * q < 2 ^ (n + 23)
    rw [e]
    omega
/-! ### sums of counts -/
theorem sum_nonneg : ∀ {l : List Int}, (∀ c ∈ l, 0 ≤ c) → 0 ≤ l.sum
  | [], _ => Int.le_refl 0
  | c :: r, h => by
    rw [List.sum_cons]
    have := h c List.mem_cons_self
    have := sum_nonneg fun d hd => h d (List.mem_cons_of_mem _ hd)
    omega
theorem sum_le : ∀ {l : List Int} {m : Int}, (∀ c ∈ l, c ≤ m) → l.sum ≤ l.length * m
  | [], m, _ => by simp
  | c :: r, m, h => by
    rw [List.sum_cons, List.length_cons]
    have h1 := h c List.mem_cons_self
    have h2 := sum_le fun d hd => h d (List.mem_cons_of_mem _ hd)
    have e : ((r.length + 1 : Nat) : Int) * m = r.length * m + m := by rw [Int.natCast_add, Int.add_mul]; simp
    omega
theorem sum_split {l : List Int} {i : Nat} (h : i < l.length) : l.sum = (l.take i).sum + l.getD i 0 + (l.drop (i + 1)).sum := by
  have e : l = l.take i ++ l.getD i 0 :: l.drop (i + 1) := by
    rw [List.getD_eq_getElem?_getD, List.getElem?_eq_getElem h]
    simp
  conv => lhs; rw [e]
  rw [List.sum_append, List.sum_cons]
  omega
theorem plan_share {cs : List Int} {g s : Int} (p : Plan cs g) (h0 : 0 ≤ s) (h1 : s < cs.length) : Share (belowOf cs s) (nth cs s) cs.sum := by
  have hi : s.toNat < cs.length := by omega
  have e := sum_split hi
  have n1 := p.nth h0 h1
  have a1 : 0 ≤ (cs.take s.toNat).sum := sum_nonneg fun c hc => by have := p.pos c (List.mem_of_mem_take hc); omega
  have a2 : 0 ≤ (cs.drop (s.toNat + 1)).sum := sum_nonneg fun c hc => by have := p.pos c (List.mem_of_mem_drop hc); omega
  have a3 := sum_le (l := cs) (m := 1000000) fun c hc => (p.pos c hc).2
  have e8 := p.eight
  refine ⟨a1, n1.1, ?_, ?_⟩
  · show (cs.take s.toNat).sum + cs.getD s.toNat 0 ≤ cs.sum
    omega
  · have : (cs.length : Int) * 1000000 ≤ 8 * 1000000 := Int.mul_le_mul_of_nonneg_right (by omega) (by omega)
    omega
/-! ### the stretch of a text -/
def strOf (s : S3) (cs : List Int) (g : Int) : List Int → S3
  | [] => s
  | x :: r => strOf (s.by (belowOf cs x) (nth cs x) cs.sum) (grown cs g x) g r
theorem strOf_snoc (g x : Int) : ∀ (ss : List Int) (s : S3) (cs : List Int), strOf s cs g (ss ++ [x]) = (strOf s cs g ss).by (belowOf (after cs g ss) x) (nth (after cs g ss) x) (after cs g ss).sum
  | [], s, cs => rfl
  | y :: r, s, cs => strOf_snoc g x r _ _
theorem strOf_ok {g : Int} : ∀ {ss : List Int} {s : S3} {cs : List Int} {n : Nat}, Plan cs g → s.Ok n → (∀ x ∈ ss, 0 ≤ x ∧ x < cs.length) → (strOf s cs g ss).Ok (n + 23 * ss.length)
  | [], s, cs, n, _, h, _ => h
  | x :: r, s, cs, n, p, h, hx => by
    have h1 := hx x List.mem_cons_self
    have h2 := strOf_ok (p.grown h1.1 h1.2) (h.by_ok (plan_share p h1.1 h1.2)) fun y hy => by
      rw [grown_len]
      exact hx y (List.mem_cons_of_mem _ hy)
    refine h2.mono ?_
    rw [List.length_cons]
    omega
def textS (cs : List Int) (g : Int) (ss : List Int) : S3 := strOf whole3 cs g ss
theorem textS_ok {cs : List Int} {g : Int} {ss : List Int} (p : Plan cs g) (h : Text cs.length ss) : (textS cs g ss).Ok 1400 :=
  (strOf_ok p whole_ok fun x hx => by have := h.2 x hx; omega).mono (by have := h.1; omega)
/-! ### the stretch of figures -/
def numOf (fs : List Int) : Int := fs.foldl (fun n f => 2 * n + f) 0
def figS (fs : List Int) : S3 := ⟨numOf fs, 1, 2 ^ fs.length⟩
def Bits (fs : List Int) : Prop := ∀ f ∈ fs, 0 ≤ f ∧ f ≤ 1
theorem numOf_snoc (fs : List Int) (f : Int) : numOf (fs ++ [f]) = 2 * numOf fs + f := by
  unfold numOf
  rw [List.foldl_append]
  rfl
theorem foldl_snoc_ind {P : List Int → Prop} (h0 : P []) (h1 : ∀ l x, P l → P (l ++ [x])) (l : List Int) : P l := by
  rw [← List.reverse_reverse l]
  induction l.reverse with
  | nil => exact h0
  | cons x r ih =>
    rw [List.reverse_cons]
    exact h1 _ _ ih
theorem numOf_ok (fs : List Int) : Bits fs → 0 ≤ numOf fs ∧ numOf fs < 2 ^ fs.length := by
  refine foldl_snoc_ind (P := fun fs => Bits fs → 0 ≤ numOf fs ∧ numOf fs < 2 ^ fs.length) (fun _ => by decide) (fun l x ih h => ?_) fs
  have h1 := ih fun f hf => h f (List.mem_append_left _ hf)
  have h2 := h x (by simp)
  rw [numOf_snoc, List.length_append, List.length_singleton, Int.pow_succ]
  omega
theorem figS_ok {fs : List Int} (h : Bits fs) : (figS fs).Ok (fs.length + 1) := by
  have h1 := numOf_ok fs h
  refine ⟨h1.1, Int.le_refl 1, ?_, ?_⟩
  · show numOf fs + 1 ≤ 2 ^ fs.length
    omega
  · show (2 : Int) ^ fs.length < 2 ^ (fs.length + 1)
    rw [Int.pow_succ]
    have : (0 : Int) < 2 ^ fs.length := Int.pow_pos (by decide)
    omega
/-! ### within -/
def withinB (a b : S3) : Bool := !decide (a.l * b.t < b.l * a.t) && decide ((a.l + a.w) * b.t ≤ (b.l + b.w) * a.t)
theorem S3.at {K : PySem.W.Frag} {H : Hp} {v : V} {s : S3} (h : Dp K H v s.d) : ∃ a, v = .ref a ∧ SqT K H a [.int s.l, .int s.w, .int s.t] := by
  cases h with
  | tup hs ha =>
    cases ha with
    | cons h1 h2 => cases h2 with
      | cons h2 h3 => cases h3 with
        | cons h3 h4 =>
          cases h4
          cases dp_int h1
          cases dp_int h2
          cases dp_int h3
          exact ⟨_, rfl, hs⟩
theorem s3_sh {n : Nat} (s : S3) : ShN (n + 1) s.d := sh_tup fun d hd => by
  simp only [List.mem_cons, List.not_mem_nil, or_false] at hd
  rcases hd with rfl | rfl | rfl <;> exact sh_int _
/-! ### a tuple taken apart -/
section
variable {K : PySem.W.Frag} {te : TE} {σ : L2.St} {H : Hp} {u : TS} {D : Ends} {i j k : Nat} {d1 d2 d3 : PyData}
theorem unp2 (h : EvD K te σ H (.tuple [d1, d2])) (q : ∀ v1 v2 H1, Same H H1 → Dp K H1 v1 d1 → Dp K H1 v2 d2 → u D ((σ.set i (some v1)).set j (some v2)) H1) : tSeq (tAsg te (gTup K 2 (gCons (gName i) (gCons (gName j) gNil)))) u D σ H :=
  h H _ (Same.refl H) fun v H1 s1 dv => by
    cases dv with
    | tup hs ha => cases ha with
      | cons a1 a2 => cases a2 with
        | cons a2 a3 =>
          cases a3
          exact ⟨_, _, rfl, hs, rfl, _, _, rfl, _, _, rfl, rfl, q _ _ H1 s1 a1 a2⟩
theorem unp3 (h : EvD K te σ H (.tuple [d1, d2, d3])) (q : ∀ v1 v2 v3 H1, Same H H1 → Dp K H1 v1 d1 → Dp K H1 v2 d2 → Dp K H1 v3 d3 → u D (((σ.set i (some v1)).set j (some v2)).set k (some v3)) H1) : tSeq (tAsg te (gTup K 3 (gCons (gName i) (gCons (gName j) (gCons (gName k) gNil))))) u D σ H :=
  h H _ (Same.refl H) fun v H1 s1 dv => by
    cases dv with
    | tup hs ha => cases ha with
      | cons a1 a2 => cases a2 with
        | cons a2 a3 => cases a3 with
          | cons a3 a4 =>
            cases a4
            exact ⟨_, _, rfl, hs, rfl, _, _, rfl, _, _, rfl, _, _, rfl, rfl, q _ _ _ H1 s1 a1 a2 a3⟩
theorem unpS {s : S3} (h : EvD K te σ H s.d) (q : ∀ H1, Same H H1 → u D (((σ.set i (some (.int s.l))).set j (some (.int s.w))).set k (some (.int s.t))) H1) : tSeq (tAsg te (gTup K 3 (gCons (gName i) (gCons (gName j) (gCons (gName k) gNil))))) u D σ H :=
  unp3 h fun v1 v2 v3 H1 s1 a1 a2 a3 => by
    rw [dp_int a1, dp_int a2, dp_int a3]
    exact q H1 s1
end
section
variable {K : PySem.W.Frag} {tas : TA} {te : TE} {σ : L2.St} {H : Hp} {d x : PyData} {ds : List PyData} {u : TS} {D : Ends}
theorem evd_XS {n : Nat} {f : List PyData → Except Err PyData} {E : L2.St → XK} (h : EvDs K tas σ H ds) (hl : ds.length = n) (hf : f ds = .ok d) : EvD K (tCallS (PSpX K n f) E tas) σ H d := fun H1 Q s1 k => h H1 _ s1 fun vs H2 s2 d2 =>
  ⟨ds, d2, hl, fun r hr v H3 s3 d3 => k v H3 (s2.trans s3) (by rw [hf] at hr; cases hr; exact d3), fun e he => by rw [hf] at he; cases he⟩
/-- a call that may raise, as a statement: both ways -/
theorem dropX {n : Nat} {f : List PyData → Except Err PyData} {E : L2.St → XK} (h : EvDs K tas σ H ds) (hl : ds.length = n) (hok : ∀ r H1, f ds = .ok r → Same H H1 → u D σ H1) (her : ∀ e H1, f ds = .error e → Same H H1 → E σ (.ref (errC K e)) none H1) : tSeq (tDrop (tCallS (PSpX K n f) E tas)) u D σ H :=
  h H _ (Same.refl H) fun vs H2 s2 d2 => ⟨ds, d2, hl, fun r hr v H3 s3 d3 => hok r H3 hr (s2.trans s3), fun e he H3 s3 => her e H3 he (s2.trans s3)⟩
end
theorem data_nth {cs : List Int} {s : Int} (h0 : 0 ≤ s) (h1 : s < cs.length) : (cs.map PyData.int)[s.toNat]? = some (.int (nth cs s)) := by
  have hi : s.toNat < cs.length := by omega
  unfold nth
  rw [List.getElem?_map, List.getElem?_eq_getElem hi, List.getD_eq_getElem?_getD, List.getElem?_eq_getElem hi]
  rfl
theorem exv_ints {K : PySem.W.Frag} {D : Addr} {te : TE} {σ : L2.St} {H : Hp} {ns : List Int} (hD : ∃ acc, H D = some (.lst acc)) (h : EvO K te σ H (ns.map PyData.int)) : EvX K D te σ H (.list (ns.map PyData.int)) := fun H1 Q s1 k => h H1 Q s1 fun p vs H2 n2 s2 e2 d2 => by
  obtain ⟨acc, e⟩ := hD
  have hp : p ≠ D := fun z => by
    rw [z, s1 _ _ e] at n2
    cases n2
  rw [dpa_ints_eq d2] at e2
  exact k _ H2 s2 (.lst (.inl (.inl (by rw [erase_at hp]; exact e2))) (dpa_ints ns))
/-- figures that the laws draw -/
def rowSize (c : Int) : Int := if c / 31 % 16 = 1 then c / 496 % 301 else c % 31
def rowOf (c m : Int) : List Int := (List.range (rowSize c).toNat).map fun (k : Nat) => mixed m (k : Int) / 7 % 2
theorem rowSize_ok (c : Int) : 0 ≤ rowSize c ∧ rowSize c ≤ 300 := by
  unfold rowSize
  split <;> omega
theorem rowOf_bits (c m : Int) : Bits (rowOf c m) := fun f hf => by
  obtain ⟨k, _, rfl⟩ := List.mem_map.mp hf
  omega
theorem rowOf_len (c m : Int) : (rowOf c m).length ≤ 300 := by
  unfold rowOf
  rw [List.length_map, List.length_range]
  have := rowSize_ok c
  omega
theorem numOf_zeros (l : List Int) : ∀ n : Nat, numOf (l ++ List.replicate n 0) = numOf l * 2 ^ n
  | 0 => by simp
  | n + 1 => by
    rw [List.replicate_succ', ← List.append_assoc, numOf_snoc, numOf_zeros l n, Int.pow_succ, Int.add_zero, Int.mul_comm 2, Int.mul_assoc]
theorem wholeData : whole3.d = .tuple [.int 0, .int 1, .int 1] := rfl
theorem isStr (s : S3) : isD s.d "tuple" = true := by
  show ((tyName s.d == "tuple") || _) = true
  rw [show (tyName s.d == "tuple") = true from by show (("tuple" : String) == "tuple") = true; decide]
  rfl
theorem cut_if {tt : TT} {a u : TS} {D : Ends} {σ : L2.St} {H : Hp} {b : Bool} (M : L2.St → Hp → Prop) (h : EvB tt σ H b) (hy : b = true → ∀ H1, Same H H1 → a { D with nx := M } σ H1) (hn : b = false → ∀ H1, Same H H1 → M σ H1) (k : ∀ σ' H', M σ' H' → u D σ' H') : Evl.tCut (tIfS tt a tNext) u D σ H :=
  ⟨M, h H _ (Same.refl H) fun H1 s1 => by
    cases b with
    | true => exact iteT (hy rfl H1 s1)
    | false => exact iteF (hn rfl H1 s1), k⟩
theorem ev_eqI {ta tb : TE} {σ : L2.St} {H : Hp} {n m : Int} (ha : EvV ta σ H (.int n)) (hb : EvV tb σ H (.int m)) : EvV (tOp rEq ta tb) σ H (.bl (decide (n = m))) := fun H1 Q s1 k =>
  ha H1 _ s1 fun H2 s2 => hb H2 _ (s1.trans s2) fun H3 s3 => ⟨rfl, by
    have e : decide (V.int n = V.int m) = decide (n = m) := by
      by_cases z : n = m
      · rw [decide_eq_true z, decide_eq_true (congrArg V.int z)]
      · rw [decide_eq_false z, decide_eq_false fun q => z (V.int.inj q)]
    rw [e]
    exact k H3 (s2.trans s3)⟩
theorem ev_neI {ta tb : TE} {σ : L2.St} {H : Hp} {n m : Int} (ha : EvV ta σ H (.int n)) (hb : EvV tb σ H (.int m)) : EvV (tOp rNe ta tb) σ H (.bl (!decide (n = m))) := fun H1 Q s1 k =>
  ha H1 _ s1 fun H2 s2 => hb H2 _ (s1.trans s2) fun H3 s3 => ⟨rfl, by
    have e : decide (V.int n = V.int m) = decide (n = m) := by
      by_cases z : n = m
      · rw [decide_eq_true z, decide_eq_true (congrArg V.int z)]
      · rw [decide_eq_false z, decide_eq_false fun q => z (V.int.inj q)]
    rw [e]
    exact k H3 (s2.trans s3)⟩
/-- what comes back, or the error's word -/
def outOf : Except Err PyData → PyData
  | .ok d => d
  | .error e => .list [.str (wordOf e)]
theorem dpaN1 {K : PySem.W.Frag} {H : Hp} {vs : List V} {d : PyData} (h : DpAll K H vs [d]) : ∃ v, vs = [v] ∧ Dp K H v d := by
  cases h with
  | cons a1 a2 => cases a2; exact ⟨_, rfl, a1⟩
theorem dpaN2 {K : PySem.W.Frag} {H : Hp} {vs : List V} {d e : PyData} (h : DpAll K H vs [d, e]) : ∃ v u, vs = [v, u] ∧ Dp K H v d ∧ Dp K H u e := by
  cases h with
  | cons a1 a2 =>
    obtain ⟨u, rfl, h2⟩ := dpaN1 a2
    exact ⟨_, u, rfl, a1, h2⟩
theorem dpaN3 {K : PySem.W.Frag} {H : Hp} {vs : List V} {d e r : PyData} (h : DpAll K H vs [d, e, r]) : ∃ v u x, vs = [v, u, x] ∧ Dp K H v d ∧ Dp K H u e ∧ Dp K H x r := by
  cases h with
  | cons a1 a2 =>
    obtain ⟨u, x, rfl, h2, h3⟩ := dpaN2 a2
    exact ⟨_, u, x, rfl, a1, h2, h3⟩
theorem wordEq (e : Err) : PyData.eqv (.list [.str (wordOf e)]) (.list [.str (wordOf e)]) = true := eqv_self (n := 1) (sh_lst fun d hd => by
  simp only [List.mem_cons, List.not_mem_nil, or_false] at hd
  subst hd
  exact ⟨by cases e <;> decide +kernel, by simp only [PyData.depth]; exact Nat.zero_le _⟩)
theorem wordSh (e : Err) : SeqAt.shaped (.list [.str (wordOf e)]) = true := by cases e <;> decide +kernel
/-! ### a for over a tuple, a list, as data -/
section
variable {K : PySem.W.Frag} {te ta : TE} {σ : L2.St} {H : Hp} {ds : List PyData} {u tw : TS} {D : Ends} {j : Nat} {n : Int}
theorem forD (he : EvD K te σ H (.tuple ds)) (Pv : Nat → L2.St → Hp → Prop) (h0 : ∀ H1, Same H H1 → Pv 0 σ H1)
    (hs : ∀ i x d σ' H' H1, ds[i]? = some d → Same H H1 → Same H1 H' → Dp K H' x d → Pv i σ' H' → tw { nx := fun σ2 H2 => Same H1 H2 ∧ Pv (i + 1) σ2 H2, rt := D.rt, bk := u D, ct := fun σ2 H2 => Same H1 H2 ∧ Pv (i + 1) σ2 H2 } (σ'.set j (some x)) H')
    (hd : ∀ σ' H', Pv ds.length σ' H' → u D σ' H') : tSeq (tFor (iTup K te) (gName j) tw) u D σ H :=
  he H _ (Same.refl H) fun v H1 s1 dv => by
    cases dv with
    | tup hq ha =>
      refine ⟨_, rfl, ⟨_, hq⟩, for_tup (K := K) (D := { D with nx := u D }) (fun i σ' H' => Same H1 H' ∧ Pv i σ' H') ⟨Same.refl _, h0 H1 s1⟩ (fun i σ' H' _ p => same_t p.1 hq) (fun i x σ' H' e p => ?_) (fun σ' H' p => hd σ' H' (by rw [← dpa_len ha]; exact p.2))⟩
      obtain ⟨d, ed, hx⟩ := dpa_get2 ha e
      exact hs i x d σ' H' H1 ed s1 p.1 (dp_same p.1 _ _ hx) p.2
theorem forDL (he : EvD K te σ H (.list ds)) (Pv : Nat → L2.St → Hp → Prop) (h0 : ∀ H1, Same H H1 → Pv 0 σ H1)
    (hs : ∀ i x d σ' H' H1, ds[i]? = some d → Same H H1 → Same H1 H' → Dp K H' x d → Pv i σ' H' → tw { nx := fun σ2 H2 => Same H1 H2 ∧ Pv (i + 1) σ2 H2, rt := D.rt, bk := u D, ct := fun σ2 H2 => Same H1 H2 ∧ Pv (i + 1) σ2 H2 } (σ'.set j (some x)) H')
    (hd : ∀ σ' H', Pv ds.length σ' H' → u D σ' H') : tSeq (tFor (iList K te) (gName j) tw) u D σ H :=
  he H _ (Same.refl H) fun v H1 s1 dv => by
    cases dv with
    | lst hq ha =>
      refine ⟨_, rfl, ⟨_, hq⟩, for_list (K := K) (D := { D with nx := u D }) (fun i σ' H' => Same H1 H' ∧ Pv i σ' H') ⟨Same.refl _, h0 H1 s1⟩ (fun i σ' H' _ p => p.1.seq hq) (fun i x σ' H' e p => ?_) (fun σ' H' p => hd σ' H' (by rw [← dpa_len ha]; exact p.2))⟩
      obtain ⟨d, ed, hx⟩ := dpa_get2 ha e
      exact hs i x d σ' H' H1 ed s1 p.1 (dp_same p.1 _ _ hx) p.2
/-- the same, the loop the last statement -/
theorem forDL1 (he : EvD K te σ H (.list ds)) (Pv : Nat → L2.St → Hp → Prop) (h0 : ∀ H1, Same H H1 → Pv 0 σ H1)
    (hs : ∀ i x d σ' H' H1, ds[i]? = some d → Same H H1 → Same H1 H' → Dp K H' x d → Pv i σ' H' → tw { nx := fun σ2 H2 => Same H1 H2 ∧ Pv (i + 1) σ2 H2, rt := D.rt, bk := D.nx, ct := fun σ2 H2 => Same H1 H2 ∧ Pv (i + 1) σ2 H2 } (σ'.set j (some x)) H')
    (hd : ∀ σ' H', Pv ds.length σ' H' → D.nx σ' H') : tFor (iList K te) (gName j) tw D σ H :=
  he H _ (Same.refl H) fun v H1 s1 dv => by
    cases dv with
    | lst hq ha =>
      refine ⟨_, rfl, ⟨_, hq⟩, for_list (K := K) (D := D) (fun i σ' H' => Same H1 H' ∧ Pv i σ' H') ⟨Same.refl _, h0 H1 s1⟩ (fun i σ' H' _ p => p.1.seq hq) (fun i x σ' H' e p => ?_) (fun σ' H' p => hd σ' H' (by rw [← dpa_len ha]; exact p.2))⟩
      obtain ⟨d, ed, hx⟩ := dpa_get2 ha e
      exact hs i x d σ' H' H1 ed s1 p.1 (dp_same p.1 _ _ hx) p.2
theorem ifNoLast {tt : TT} {w : TS} (h : EvB tt σ H false) (k : ∀ H1, Same H H1 → D.nx σ H1) : tIfS tt w tNext D σ H := h H _ (Same.refl H) fun H1 s => iteF (k H1 s)
theorem cut_take2 {xs : List V} {s : Int} (h0 : 0 ≤ s) : cutV xs none (some s) = xs.take s.toNat := by
  by_cases h : s ≤ xs.length
  · exact cut_take h0 h
  · unfold cutV
    obtain ⟨n, rfl⟩ := Int.eq_ofNat_of_zero_le h0
    rw [HT.sIx_none, HT.sIx_nat, Int.toNat_natCast, Nat.min_eq_right (by omega), Nat.sub_zero, List.drop_zero, List.take_length, List.take_of_length_le (by omega)]
theorem evo_takeL2 (h : EvD K te σ H (.list ds)) (hn : EvV ta σ H (.int n)) (h0 : 0 ≤ n) : EvO K (tSl (rSlL K) te tNoPart (tPart ta)) σ H (ds.take n.toNat) := fun H1 Q s1 k =>
  h H1 _ s1 fun v H2 s2 d2 => hn H2 _ (s1.trans s2) fun H3 s3 => ⟨n, rfl, by
    cases d2 with
    | lst hs ha => exact ⟨_, _, rfl, s3.seq hs, fun p np => k p _ _ ((s2.trans s3).free np) ((s2.trans s3).trans (same_upd np)) upd_same (by
        rw [cut_take2 h0]
        exact dpa_take (dpa_same (s3.trans (same_upd np)) _ _ ha))⟩⟩
end
theorem Text.take {n : Nat} {ss : List Int} (h : Text n ss) (k : Nat) : Text n (ss.take k) := ⟨by rw [List.length_take]; have := h.1; omega, fun s hs => h.2 s (List.mem_of_mem_take hs)⟩
theorem Bits.take {fs : List Int} (h : Bits fs) (k : Nat) : Bits (fs.take k) := fun f hf => h f (List.mem_of_mem_take hf)
theorem signs_text {c : Int} {n : Nat} {most : Nat} (h : 0 < n) (hm : most ≤ 60) : Text n (signsOf c n most) := ⟨by have := signsOf_len (c := c) (n := n) (most := (most : Int)) (by omega); omega, fun s hs => by have := signsOf_ok (c := c) (n := n) (most := (most : Int)) h s hs; omega⟩
theorem rep_one {α : Type} (n : Nat) (x : α) : (List.replicate n [x]).flatten = List.replicate n x := by
  induction n with
  | zero => rfl
  | succ n ih => rw [List.replicate_succ, List.flatten_cons, ih, List.replicate_succ]; rfl
/-! ### side by side -/
def FEq (a b : Int × Int) : Prop := a.1 * b.2 = b.1 * a.2
theorem FEq.trans {a b c : Int × Int} (h : FEq a b) (h2 : FEq b c) (hb : 0 < b.2) : FEq a c := by
  unfold FEq at *
  refine Int.eq_of_mul_eq_mul_right (a := b.2) (by omega) ?_
  calc a.1 * c.2 * b.2 = (a.1 * b.2) * c.2 := by rw [Int.mul_right_comm]
    _ = b.1 * a.2 * c.2 := by rw [h]
    _ = (b.1 * c.2) * a.2 := by rw [Int.mul_right_comm]
    _ = c.1 * b.2 * a.2 := by rw [h2]
    _ = c.1 * a.2 * b.2 := by rw [Int.mul_right_comm]
def Chain : List S3 → Int × Int → Int × Int → Prop
  | [], a, b => FEq a b
  | s :: r, a, b => FEq a (s.l, s.t) ∧ 1 ≤ s.w ∧ 1 ≤ s.t ∧ Chain r (s.l + s.w, s.t) b
theorem chain_front : ∀ {l : List S3} {a a' b : Int × Int}, FEq a' a → 0 < a.2 → Chain l a b → Chain l a' b
  | [], _, _, _, e, h, c => e.trans c h
  | _ :: _, _, _, _, e, h, c => ⟨e.trans c.1 h, c.2⟩
theorem chain_app : ∀ {l r : List S3} {a b c : Int × Int}, Chain l a b → 0 < b.2 → Chain r b c → Chain (l ++ r) a c
  | [], _, _, _, _, h, hb, k => chain_front h hb k
  | _ :: _, _, _, _, _, h, hb, k => ⟨h.1, h.2.1, h.2.2.1, chain_app h.2.2.2 hb k⟩
theorem chain_back : ∀ {l : List S3} {a b b' : Int × Int}, Chain l a b → 0 < b.2 → FEq b b' → Chain l a b'
  | [], _, _, _, h, hb, k => h.trans k hb
  | _ :: _, _, _, _, h, hb, k => ⟨h.1, h.2.1, h.2.2.1, chain_back h.2.2.2 hb k⟩
theorem chain_refine {α : Type} {S : α → S3} {sub : α → List S3} : ∀ {l : List α} {a b : Int × Int}, Chain (l.map S) a b → (∀ t ∈ l, Chain (sub t) ((S t).l, (S t).t) ((S t).l + (S t).w, (S t).t)) → Chain (l.flatMap sub) a b
  | [], _, _, h, _ => h
  | t :: r, a, b, h, k => by
    rw [List.flatMap_cons]
    obtain ⟨h1, h2, h3, h4⟩ := h
    exact chain_app (chain_front h1 h3 (k t List.mem_cons_self)) h3 (chain_refine h4 fun u hu => k u (List.mem_cons_of_mem _ hu))
theorem take_succ_sum {cs : List Int} {k : Nat} (h : k < cs.length) : (cs.take (k + 1)).sum = (cs.take k).sum + nth cs (k : Int) := by
  unfold nth
  rw [Int.toNat_natCast, List.take_add_one, List.getElem?_eq_getElem h, List.sum_append, List.getD_eq_getElem?_getD, List.getElem?_eq_getElem h]
  simp
theorem chain_sub {cs : List Int} {g : Int} {s : S3} {n : Nat} (p : Plan cs g) (ok : s.Ok n) : ∀ k, k ≤ cs.length → Chain ((List.range k).map fun (x : Nat) => s.by (belowOf cs (x : Int)) (nth cs (x : Int)) cs.sum) (s.l, s.t) (s.l * cs.sum + s.w * (cs.take k).sum, s.t * cs.sum)
  | 0, _ => by
    show s.l * (s.t * cs.sum) = (s.l * cs.sum + s.w * 0) * s.t
    rw [Int.mul_zero, Int.add_zero, Int.mul_comm s.t, Int.mul_assoc]
  | k + 1, h => by
    have hs := plan_share p (s := (k : Int)) (by omega) (by omega)
    have q1 : 1 ≤ cs.sum := by have := hs.b0; have := hs.c1; have := hs.bc; omega
    have t1 : 1 ≤ s.t * cs.sum := by
      have := Int.mul_le_mul_of_nonneg_left q1 (show 0 ≤ s.t by have := ok.t1; omega)
      have := ok.t1
      omega
    have w1 : 1 ≤ s.w * nth cs (k : Int) := by
      have := Int.mul_le_mul_of_nonneg_left hs.c1 (show 0 ≤ s.w by have := ok.w1; omega)
      have := ok.w1
      omega
    rw [List.range_succ, List.map_append]
    refine chain_app (chain_sub p ok k (by omega)) (by show 0 < s.t * cs.sum; omega) ?_
    have eb : belowOf cs (k : Int) = (cs.take k).sum := by
      show (cs.take (k : Int).toNat).sum = _
      rw [Int.toNat_natCast]
    refine ⟨?_, w1, t1, ?_⟩
    · show _ * (s.t * cs.sum) = (s.l * cs.sum + s.w * belowOf cs (k : Int)) * (s.t * cs.sum)
      rw [eb]
    · show (s.l * cs.sum + s.w * belowOf cs (k : Int) + s.w * nth cs (k : Int)) * (s.t * cs.sum) = (s.l * cs.sum + s.w * (cs.take (k + 1)).sum) * (s.t * cs.sum)
      rw [eb, take_succ_sum (by omega), Int.mul_add, Int.add_assoc]
/-- all texts with so many signs, in order -/
def textsB (n : Nat) : Nat → List (List Int)
  | 0 => [[]]
  | m + 1 => (textsB n m).flatMap fun t => (List.range n).map fun (x : Nat) => t ++ [(x : Int)]
theorem textsB_ok {n : Nat} : ∀ {m : Nat} {t : List Int}, t ∈ textsB n m → t.length = m ∧ ∀ x ∈ t, 0 ≤ x ∧ x < n
  | 0, t, h => by
    rw [List.mem_singleton.mp h]
    exact ⟨rfl, fun x hx => nomatch hx⟩
  | m + 1, t, h => by
    obtain ⟨u, hu, h2⟩ := List.mem_flatMap.mp h
    obtain ⟨x, hx, rfl⟩ := List.mem_map.mp h2
    have k := textsB_ok hu
    have hx := List.mem_range.mp hx
    refine ⟨by rw [List.length_append, k.1]; rfl, fun y hy => ?_⟩
    rcases List.mem_append.mp hy with hy | hy
    · exact k.2 y hy
    · rw [List.mem_singleton.mp hy]
      omega
theorem textsB_len {n : Nat} (h : n ≤ 8) : ∀ m, (textsB n m).length ≤ 8 ^ m
  | 0 => Nat.le_refl 1
  | m + 1 => by
    have := textsB_len h m
    show ((textsB n m).flatMap _).length ≤ _
    rw [List.length_flatMap]
    have e : (textsB n m).map (fun t => ((List.range n).map fun (x : Nat) => t ++ [(x : Int)]).length) = (textsB n m).map fun _ => n := by
      refine List.map_congr_left fun t _ => ?_
      rw [List.length_map, List.length_range]
    rw [e, List.map_const', List.sum_replicate_nat, Nat.pow_succ]
    exact Nat.mul_le_mul this h
theorem chain_texts {cs : List Int} {g : Int} (p : Plan cs g) : ∀ m, m ≤ 60 → Chain ((textsB cs.length m).map (textS cs g)) (0, 1) (1, 1)
  | 0, _ => ⟨rfl, Int.le_refl 1, Int.le_refl 1, rfl⟩
  | m + 1, h => by
    show Chain (((textsB cs.length m).flatMap _).map _) _ _
    rw [List.map_flatMap]
    refine chain_refine (chain_texts p m (by omega)) fun t ht => ?_
    obtain ⟨hl, hx⟩ := textsB_ok ht
    obtain ⟨pa, la⟩ := after_ok p hx
    have ok := textS_ok p (ss := t) ⟨by omega, fun x hh => by have := hx x hh; omega⟩
    have c := chain_sub pa ok cs.length (by omega)
    have hs := plan_share pa (s := 0) (by omega) (by have := p.two; omega)
    have q1 : 1 ≤ (after cs g t).sum := by have := hs.b0; have := hs.c1; have := hs.bc; omega
    have t1 : 0 < (textS cs g t).t * (after cs g t).sum := Int.mul_pos (by have := ok.t1; omega) (by omega)
    rw [List.map_map]
    have e : (textS cs g ∘ fun (x : Nat) => t ++ [(x : Int)]) = fun (x : Nat) => (textS cs g t).by (belowOf (after cs g t) (x : Int)) (nth (after cs g t) (x : Int)) (after cs g t).sum := funext fun x => strOf_snoc g x t whole3 cs
    rw [e]
    refine chain_back c t1 ?_
    rw [← la, List.take_length]
    show ((textS cs g t).l * _ + (textS cs g t).w * _) * (textS cs g t).t = ((textS cs g t).l + (textS cs g t).w) * ((textS cs g t).t * _)
    rw [← Int.add_mul, Int.mul_comm (textS cs g t).t, Int.mul_assoc]
theorem by_within {s : S3} {n : Nat} {b c q : Int} (ok : s.Ok n) (hs : Share b c q) : withinB (s.by b c q) s = true := by
  have t1 := ok.t1; have w1 := ok.w1
  have b0 := hs.b0; have c1 := hs.c1; have bc := hs.bc
  have e1 : (s.by b c q).l * s.t = s.l * (s.by b c q).t + s.w * b * s.t := by
    show (s.l * q + s.w * b) * s.t = s.l * (s.t * q) + s.w * b * s.t
    rw [Int.add_mul, Int.mul_comm s.t q, Int.mul_assoc s.l]
  have h1 : 0 ≤ s.w * b * s.t := Int.mul_nonneg (Int.mul_nonneg (by omega) b0) (by omega)
  have m4 : s.w * (b + c) * s.t ≤ s.w * q * s.t := Int.mul_le_mul_of_nonneg_right (Int.mul_le_mul_of_nonneg_left bc (by omega)) (by omega)
  have e2 : ((s.by b c q).l + (s.by b c q).w) * s.t = s.l * (s.by b c q).t + s.w * (b + c) * s.t := by
    show (s.l * q + s.w * b + s.w * c) * s.t = s.l * (s.t * q) + s.w * (b + c) * s.t
    rw [Int.add_assoc, ← Int.mul_add, Int.add_mul, Int.mul_comm s.t q, Int.mul_assoc s.l]
  have e3 : (s.l + s.w) * (s.by b c q).t = s.l * (s.by b c q).t + s.w * q * s.t := by
    show (s.l + s.w) * (s.t * q) = s.l * (s.t * q) + s.w * q * s.t
    rw [Int.add_mul, Int.mul_comm s.t q, Int.mul_assoc s.w]
  unfold withinB
  rw [decide_eq_false (by omega), decide_eq_true (by omega)]
  rfl
/-- list + list, also what no one tracks -/
def rCatL (K : PySem.W.Frag) : R2 := fun x y H Q => ∃ l b xs zs, x = .ref l ∧ y = .ref b ∧ SqL K H l xs ∧ SqL K H b zs ∧ xs.length + zs.length ≤ sizeLine ∧ ∀ p, H p = none → Q (.ref p) (upd H p (.lst (xs ++ zs)))
theorem op_catL {X : Cx} : OpR X (binaryOp .Add) (rCatL X.K) := by
  intro pins s σ H x y v u Q I rx ry h
  obtain ⟨l, b, xs, zs, rfl, rfl, hH, hB, hz, q⟩ := h
  cases rx
  cases ry
  obtain ⟨its, r, ⟨⟨cls, dd, data, sl⟩, n, ho, hc, hdd, hd⟩, hl⟩ := I.list hH
  obtain ⟨its2, r2, ⟨⟨cls2, dd2, data2, sl2⟩, n2, ho2, hc2, hdd2, hd2⟩, hl2⟩ := I.list hB
  simp only at hc hd hc2 hd2
  subst hc hd hc2 hd2
  have e1 := r.length
  have e2 := r2.length
  have ea : its.toArray ++ its2.toArray = (its ++ its2).toArray := by simp
  refine concat_meets ⟨_, ho, rfl⟩ ⟨_, ho2, rfl⟩ noFill_list_add seq_list_add PySem.F.slot_list_add PySem.F.entry_list_add (PySem.F.args_list_add_2 _ _) (list_addW l b its.toArray its2.toArray n n2 dd dd2 sl sl2 (by rw [List.size_toArray, List.size_toArray]; omega)) ⟨ho, ho2, ?_⟩
  rw [ea]
  exact ⟨.ref _, _, I.lnew (t' := s.toks) (r.append r2) (by rw [List.length_append]; omega), rfl, q _ I.fresh⟩
theorem op_catLK {X : Cx} {K : PySem.W.Frag} (h : X.K = K) : OpR X (binaryOp .Add) (rCatL K) := by subst h; exact op_catL
theorem cut_last {xs : List V} : cutV xs none (some (-1)) = xs.dropLast := by
  unfold cutV
  rw [HT.sIx_none, List.drop_zero, List.dropLast_eq_take]
  refine congrArg (fun n => xs.take n) ?_
  show ((-1 : Int) + xs.length).toNat - 0 = _
  omega
theorem dpa_last {K : PySem.W.Frag} {H : Hp} {vs : List V} {ds : List PyData} (h : DpAll K H vs ds) : DpAll K H vs.dropLast ds.dropLast := by
  rw [List.dropLast_eq_take, List.dropLast_eq_take, dpa_len h]
  exact dpa_take h
section
variable {K : PySem.W.Frag} {te ta tb : TE} {σ : L2.St} {H : Hp} {ds es : List PyData} {u tw : TS} {D : Ends} {i j : Nat} {n : Int}
theorem evo_catL (ha : EvD K ta σ H (.list ds)) (hb : EvD K tb σ H (.list es)) (hl : ds.length + es.length ≤ 100000) : EvO K (tOp (rCatL K) ta tb) σ H (ds ++ es) := fun H1 Q s1 k =>
  ha H1 _ s1 fun v H2 s2 d2 => hb H2 _ (s1.trans s2) fun y H3 s3 d3 => by
    cases d2 with
    | lst h2 a2 =>
      cases d3 with
      | lst h3 a3 => exact ⟨_, _, _, _, rfl, rfl, s3.seq h2, h3, by rw [dpa_len a2, dpa_len a3]; exact Nat.le_trans hl (by decide), fun l nl =>
          k l _ _ ((s2.trans s3).free nl) ((s2.trans s3).trans (same_upd nl)) upd_same (dpa_app (dpa_same (s3.trans (same_upd nl)) _ _ a2) (dpa_same (same_upd nl) _ _ a3))⟩
theorem asgLastO (h : EvO K te σ H ds) (k : ∀ p vs H1, H p = none → Same H H1 → H1 p = some (.lst vs) → DpAll K H1 vs ds → D.nx (σ.set i (some (.ref p))) H1) : tAsg te (gName i) D σ H := h H _ (Same.refl H) fun p vs H1 np s e d => k p vs H1 np s e d
theorem forR {m : Nat} (he : EvV te σ H (.int (m : Int))) (hz : m ≤ 100000) (Pv : Nat → L2.St → Hp → Prop) (h0 : ∀ H1, Same H H1 → Pv 0 σ H1)
    (hs : ∀ i σ' H', i < m → Pv i σ' H' → tw { nx := Pv (i + 1), rt := D.rt, bk := u D, ct := Pv (i + 1) } (σ'.set j (some (.int (i : Int)))) H') (hd : ∀ σ' H', Pv m σ' H' → u D σ' H') : tSeq (tFor (iRng1 (tCons te tNil)) (gName j) tw) u D σ H :=
  he H _ (Same.refl H) fun H1 s1 => ⟨(m : Int), rfl, by omega, by omega, by
    rw [Int.toNat_natCast]
    exact for_range (lo := 0) (n := m) (D := { D with nx := u D }) Pv (h0 H1 s1) (fun i σ' H' hi p => by
      have := hs i σ' H' hi p
      rw [← Int.zero_add (i : Int)] at this
      exact this) hd⟩
theorem evo_lastG (h : EvD K te σ H (.list ds)) (hn : EvV ta σ H (.int (-1))) : EvO K (tSl (rSlL K) te tNoPart (tPart ta)) σ H ds.dropLast := fun H1 Q s1 k =>
  h H1 _ s1 fun v H2 s2 d2 => hn H2 _ (s1.trans s2) fun H3 s3 => ⟨-1, rfl, by
    cases d2 with
    | lst hs ha => exact ⟨_, _, rfl, s3.seq hs, fun p np => k p _ _ ((s2.trans s3).free np) ((s2.trans s3).trans (same_upd np)) upd_same (by
        rw [cut_last]
        exact dpa_last (dpa_same (s3.trans (same_upd np)) _ _ ha))⟩⟩
theorem evo_last (h : EvD K te σ H (.list ds)) : EvO K (tSl (rSlL K) te tNoPart (tPart (tUn (rU fun i => V.int (-i)) (tC (.int 1))))) σ H ds.dropLast := evo_lastG h (ev_neg ev_c)
end
/-! ### some of the errors' classes only -/
def errR1 (K : PySem.W.Frag) (e : Err) : Bool := PySem.W.excIn K (errC K e) He.veBase "ValueError.__new__" && (PySem.W.keepIn K (.ref (errC K e)) && (decide (PySem.W.subIn K (.ref (errC K e)) (.type "BaseException") = some true) && decide (PySem.W.typeIn K (.ref (errC K e)) = some (.type "type"))))
def errsR (es : List Err) (K : PySem.W.Frag) : Bool := es.all fun e => errR1 K e
theorem errsR_ok {es : List Err} {K : PySem.W.Frag} (h : errsR es K = true) (e : Err) (hm : e ∈ es) : PySem.W.excIn K (errC K e) He.veBase "ValueError.__new__" = true ∧ PySem.W.keepIn K (.ref (errC K e)) = true ∧ PySem.W.subIn K (.ref (errC K e)) (.type "BaseException") = some true ∧ PySem.W.typeIn K (.ref (errC K e)) = some (.type "type") := by
  obtain ⟨h1, h⟩ := He.ba (List.all_eq_true.mp h e hm)
  obtain ⟨h2, h⟩ := He.ba h
  obtain ⟨h3, h4⟩ := He.ba h
  exact ⟨h1, h2, of_decide_eq_true h3, of_decide_eq_true h4⟩
end Pl

namespace Pl
open PySem PySem.Spec PyProof.Rows L2
theorem wmul {i j : Int} {n m : Nat} (hi : i.natAbs < 2 ^ n) (hj : j.natAbs < 2 ^ m) (h : n + m ≤ 900000) : CMulW i j :=
  wide_mul (a := n + 1) (b := m + 1) (Nat.lt_of_lt_of_le hi (Nat.pow_le_pow_right (by decide) (by omega))) (Nat.lt_of_lt_of_le hj (Nat.pow_le_pow_right (by decide) (by omega))) (by omega) (by omega) (by omega)
theorem Share.abs {b c q : Int} (h : Share b c q) : b.natAbs < 2 ^ 23 ∧ c.natAbs < 2 ^ 23 ∧ q.natAbs < 2 ^ 23 := by
  have := h.b0; have := h.c1; have := h.bc; have := h.q8
  refine ⟨?_, ?_, ?_⟩ <;> (show _ < 8388608; omega)
theorem unp2Lx {K : PySem.W.Frag} {te : TE} {σ : L2.St} {H : Hp} {D : Ends} {i j : Nat} {d1 d2 : PyData} (h : EvD K te σ H (.tuple [d1, d2])) (q : ∀ v1 v2 H1, Same H H1 → Dp K H1 v1 d1 → Dp K H1 v2 d2 → D.nx ((σ.set i (some v1)).set j (some v2)) H1) : tAsg te (gTup K 2 (gCons (gName i) (gCons (gName j) gNil))) D σ H :=
  h H _ (Same.refl H) fun v H1 s1 dv => by
    cases dv with
    | tup hs ha =>
      obtain ⟨v1, v2, rfl, a1, a2⟩ := dpaN2 ha
      exact ⟨_, _, rfl, hs, rfl, _, _, rfl, _, _, rfl, rfl, q _ _ H1 s1 a1 a2⟩
theorem isBits_ok {d : PyData} {n : Nat} (h : isWholeList d n 0 1 = true) : ∃ fs : List Int, d = .list (fs.map PyData.int) ∧ fs.length ≤ n ∧ Bits fs := by
  cases d with
  | list ds =>
    have h2 : (decide (ds.length ≤ n) && areWhole ds 0 1) = true := h
    rw [Bool.and_eq_true, decide_eq_true_eq] at h2
    obtain ⟨ns, rfl, q⟩ := areWhole_ok h2.2
    refine ⟨ns, rfl, ?_, q⟩
    simpa using h2.1
  | _ => cases h
theorem isBits_of {fs : List Int} {n : Nat} (h : Bits fs) (hl : fs.length ≤ n) : isWholeList (.list (fs.map PyData.int)) n 0 1 = true := by
  show (decide ((fs.map PyData.int).length ≤ n) && areWhole (fs.map PyData.int) 0 1) = true
  rw [areWhole_ints h, List.length_map, decide_eq_true hl]
  rfl
theorem get_int {ss : List Int} {i : Nat} {x : V} (hi : (ss.map V.int)[i]? = some x) : ∃ s, ss[i]? = some s ∧ x = V.int s := by
  rw [List.getElem?_map] at hi
  cases e : ss[i]? with
  | none => rw [e] at hi; cases hi
  | some s => rw [e] at hi; exact ⟨s, rfl, (Option.some.inj hi).symm⟩
theorem numOf_moreX (as fs : List Int) (i : Nat) {b : Int} (e : fs[i]? = some b) : numOf (as ++ fs.take (i + 1)) = 2 * numOf (as ++ fs.take i) + b := by
  rw [take_snoc e, ← List.append_assoc, numOf_snoc]
end Pl

namespace Pl
open PySem PySem.Spec PyProof.Rows L2
/-! ### fractions in order -/
def LeF (a b : Int × Int) : Prop := a.1 * b.2 ≤ b.1 * a.2
def LtF (a b : Int × Int) : Prop := a.1 * b.2 < b.1 * a.2
theorem LeF.trans {a b c : Int × Int} (h : LeF a b) (h2 : LeF b c) (ha : 0 < a.2) (hb : 0 < b.2) (hc : 0 < c.2) : LeF a c := by
  unfold LeF at *
  refine Int.le_of_mul_le_mul_right (a := b.2) ?_ hb
  have m1 := Int.mul_le_mul_of_nonneg_right h (show 0 ≤ c.2 by omega)
  have m2 := Int.mul_le_mul_of_nonneg_right h2 (show 0 ≤ a.2 by omega)
  have e1 : a.1 * c.2 * b.2 = a.1 * b.2 * c.2 := Int.mul_right_comm _ _ _
  have e2 : b.1 * a.2 * c.2 = b.1 * c.2 * a.2 := Int.mul_right_comm _ _ _
  have e3 : c.1 * a.2 * b.2 = c.1 * b.2 * a.2 := Int.mul_right_comm _ _ _
  omega
theorem LtF.trans_le {a b c : Int × Int} (h : LtF a b) (h2 : LeF b c) (ha : 0 < a.2) (hb : 0 < b.2) (hc : 0 < c.2) : LtF a c := by
  unfold LeF LtF at *
  refine Int.lt_of_mul_lt_mul_right (a := b.2) ?_ (show 0 ≤ b.2 by omega)
  have m1 := Int.mul_lt_mul_of_pos_right h hc
  have m2 := Int.mul_le_mul_of_nonneg_right h2 (show 0 ≤ a.2 by omega)
  have e1 : a.1 * c.2 * b.2 = a.1 * b.2 * c.2 := Int.mul_right_comm _ _ _
  have e2 : b.1 * a.2 * c.2 = b.1 * c.2 * a.2 := Int.mul_right_comm _ _ _
  have e3 : c.1 * a.2 * b.2 = c.1 * b.2 * a.2 := Int.mul_right_comm _ _ _
  omega
theorem LeF.refl (a : Int × Int) : LeF a a := Int.le_refl _
theorem LtF.le {a b : Int × Int} (h : LtF a b) : LeF a b := Int.le_of_lt h
theorem LtF.not_le {a b : Int × Int} (h : LtF a b) : ¬ LeF b a := Int.not_le.mpr h
def S3.lo (s : S3) : Int × Int := (s.l, s.t)
def S3.hi (s : S3) : Int × Int := (s.l + s.w, s.t)
/-- what a stretch is -/
structure S3.Good (s : S3) : Prop where
  l0 : 0 ≤ s.l
  w1 : 1 ≤ s.w
  lw : s.l + s.w ≤ s.t
theorem S3.Ok.good {s : S3} {n : Nat} (h : s.Ok n) : s.Good := ⟨h.l0, h.w1, h.lw⟩
theorem S3.Good.t0 {s : S3} (h : s.Good) : 0 < s.t := by have := h.l0; have := h.w1; have := h.lw; omega
theorem S3.Good.lohi {s : S3} (h : s.Good) : LtF s.lo s.hi := by
  show s.l * s.t < (s.l + s.w) * s.t
  exact Int.mul_lt_mul_of_pos_right (by have := h.w1; omega) h.t0
theorem within_iff {a b : S3} : withinB a b = true ↔ LeF b.lo a.lo ∧ LeF a.hi b.hi := by
  show (!decide (a.l * b.t < b.l * a.t) && decide ((a.l + a.w) * b.t ≤ (b.l + b.w) * a.t)) = true ↔ b.l * a.t ≤ a.l * b.t ∧ (a.l + a.w) * b.t ≤ (b.l + b.w) * a.t
  rw [Bool.and_eq_true, Bool.not_eq_true', decide_eq_false_iff_not, decide_eq_true_eq, Int.not_lt]
theorem within_trans {a b c : S3} (ga : a.Good) (gb : b.Good) (gc : c.Good) (h : withinB a b = true) (h2 : withinB b c = true) : withinB a c = true := by
  obtain ⟨h1, h3⟩ := within_iff.mp h
  obtain ⟨h4, h5⟩ := within_iff.mp h2
  exact within_iff.mpr ⟨h4.trans h1 gc.t0 gb.t0 ga.t0, h3.trans h5 ga.t0 gb.t0 gc.t0⟩
theorem within_self (a : S3) : withinB a a = true := within_iff.mpr ⟨LeF.refl _, LeF.refl _⟩
theorem figS_good {fs : List Int} (h : Bits fs) : (figS fs).Good := (figS_ok h).good
/-- a stretch that lies within two lies not in two of which one ends where, or ahead of where, the other begins -/
theorem apart {a b c : S3} (ga : a.Good) (gb : b.Good) (gc : c.Good) (h : withinB c a = true) (h2 : withinB c b = true) : ¬ LeF a.hi b.lo := fun z => by
  obtain ⟨_, h3⟩ := within_iff.mp h
  obtain ⟨h4, _⟩ := within_iff.mp h2
  have q := (h3.trans z gc.t0 ga.t0 gb.t0).trans h4 gc.t0 gb.t0 gc.t0
  exact gc.lohi.not_le q
/-! ### figures by a number -/
def bitsOf : Nat → Int → List Int
  | 0, _ => []
  | n + 1, k => bitsOf n (k / 2) ++ [k % 2]
theorem bitsOf_len : ∀ (n : Nat) (k : Int), (bitsOf n k).length = n
  | 0, _ => rfl
  | n + 1, k => by
    show (bitsOf n (k / 2) ++ [k % 2]).length = n + 1
    rw [List.length_append, bitsOf_len n]
    rfl
theorem bitsOf_bits : ∀ (n : Nat) (k : Int), Bits (bitsOf n k)
  | 0, _ => fun _ h => nomatch h
  | n + 1, k => fun f hf => by
    rcases List.mem_append.mp hf with h | h
    · exact bitsOf_bits n _ f h
    · rw [List.mem_singleton.mp h]
      omega
theorem bitsOf_num : ∀ (n : Nat) (k : Int), 0 ≤ k → k < 2 ^ n → numOf (bitsOf n k) = k
  | 0, k, h0, h1 => by
    have : k < 1 := h1
    show (0 : Int) = k
    omega
  | n + 1, k, h0, h1 => by
    rw [Int.pow_succ] at h1
    show numOf (bitsOf n (k / 2) ++ [k % 2]) = k
    rw [numOf_snoc, bitsOf_num n (k / 2) (by omega) (by omega)]
    omega
theorem num_inj : ∀ {fs gs : List Int}, Bits fs → Bits gs → fs.length = gs.length → numOf fs = numOf gs → fs = gs := fun {fs} => by
  refine foldl_snoc_ind (P := fun fs => ∀ {gs : List Int}, Bits fs → Bits gs → fs.length = gs.length → numOf fs = numOf gs → fs = gs) ?_ ?_ fs
  · intro gs _ _ hl _
    exact (List.eq_nil_of_length_eq_zero hl.symm).symm
  · intro l x ih gs hf hg hl hn
    have hne : gs ≠ [] := fun z => by rw [z, List.length_append] at hl; simp at hl
    have eg := List.dropLast_concat_getLast hne
    have hg2 : Bits gs.dropLast := fun f h => hg f (List.dropLast_subset _ h)
    have hx := hf x (by simp)
    have hy := hg (gs.getLast hne) (List.getLast_mem hne)
    rw [← eg, numOf_snoc, numOf_snoc] at hn
    have l1 : l.length = gs.dropLast.length := by
      rw [← eg, List.length_append, List.length_append, List.length_singleton, List.length_singleton] at hl
      omega
    have e1 := ih (fun f h => hf f (List.mem_append_left _ h)) hg2 l1 (by omega)
    have e2 : x = gs.getLast hne := by rw [e1] at hn; omega
    rw [e1, e2, eg]
/-! ### the figures in a stretch -/
/-- the first number, of so many figures, whose stretch begins in s -/
def firstK (s : S3) (n : Nat) : Int := (s.l * 2 ^ n + s.t - 1) / s.t
def fitsK (s : S3) (n : Nat) : Bool := decide ((firstK s n + 1) * s.t ≤ (s.l + s.w) * 2 ^ n)
theorem pow2_pos (n : Nat) : (0 : Int) < 2 ^ n := Int.pow_pos (by decide)
theorem firstK_ge {s : S3} (h : s.Good) (n : Nat) : s.l * 2 ^ n ≤ firstK s n * s.t := by
  have t0 := h.t0
  have := Int.lt_ediv_add_one_mul_self (s.l * 2 ^ n + s.t - 1) t0
  unfold firstK
  rw [Int.add_mul] at this
  omega
theorem firstK_le {s : S3} (h : s.Good) {n : Nat} {k : Int} (hk : s.l * 2 ^ n ≤ k * s.t) : firstK s n ≤ k := by
  have t0 := h.t0
  refine Int.lt_add_one_iff.mp (Int.ediv_lt_of_lt_mul t0 ?_)
  rw [Int.add_mul]
  omega
theorem firstK_pos {s : S3} (h : s.Good) (n : Nat) : 0 ≤ firstK s n := by
  refine Int.ediv_nonneg ?_ (by have := h.t0; omega)
  have := Int.mul_nonneg h.l0 (show (0 : Int) ≤ 2 ^ n by have := pow2_pos n; omega)
  have := h.t0
  omega
theorem fits_lt {s : S3} (h : s.Good) {n : Nat} (hf : fitsK s n = true) : firstK s n < 2 ^ n := by
  have f := of_decide_eq_true hf
  have p := pow2_pos n
  have m := Int.mul_le_mul_of_nonneg_right h.lw (show (0 : Int) ≤ 2 ^ n by omega)
  rw [Int.mul_comm s.t] at m
  have q := Int.le_of_mul_le_mul_right (Int.le_trans f m) h.t0
  omega
theorem fits_within {s : S3} (h : s.Good) {n : Nat} (hf : fitsK s n = true) : withinB (figS (bitsOf n (firstK s n))) s = true := by
  have f := of_decide_eq_true hf
  refine within_iff.mpr ⟨?_, ?_⟩
  · show s.l * 2 ^ (bitsOf n (firstK s n)).length ≤ numOf (bitsOf n (firstK s n)) * s.t
    rw [bitsOf_len, bitsOf_num n _ (firstK_pos h n) (fits_lt h hf)]
    exact firstK_ge h n
  · show (numOf (bitsOf n (firstK s n)) + 1) * s.t ≤ (s.l + s.w) * 2 ^ (bitsOf n (firstK s n)).length
    rw [bitsOf_len, bitsOf_num n _ (firstK_pos h n) (fits_lt h hf)]
    exact f
theorem within_fits {s : S3} (h : s.Good) {fs : List Int} (hw : withinB (figS fs) s = true) : fitsK s fs.length = true ∧ firstK s fs.length ≤ numOf fs := by
  obtain ⟨h1, h2⟩ := within_iff.mp hw
  have k := firstK_le h (n := fs.length) (k := numOf fs) h1
  refine ⟨decide_eq_true ?_, k⟩
  have m := Int.mul_le_mul_of_nonneg_right (show firstK s fs.length + 1 ≤ numOf fs + 1 by omega) (show 0 ≤ s.t by have := h.t0; omega)
  exact Int.le_trans m h2
theorem fits_wide {s : S3} (h : s.Good) {n : Nat} (hw : 2 * s.t ≤ s.w * 2 ^ n) : fitsK s n = true := by
  refine decide_eq_true ?_
  have t0 := h.t0
  have q := Int.ediv_mul_le (s.l * 2 ^ n + s.t - 1) (show s.t ≠ 0 by omega)
  unfold firstK
  rw [Int.add_mul, Int.add_mul]
  omega
theorem wide_fits {s : S3} (h : s.Good) {n : Nat} (hf : fitsK s n = true) : s.t ≤ s.w * 2 ^ n := by
  have f := of_decide_eq_true hf
  have g := firstK_ge h n
  rw [Int.add_mul, Int.add_mul] at f
  omega
def leastFrom (p : Nat → Bool) : Nat → Nat → Nat
  | 0, n => n
  | f + 1, n => if p n then n else leastFrom p f (n + 1)
theorem leastFrom_ok {p : Nat → Bool} {m : Nat} (hm : p m = true) : ∀ f n, n ≤ m → m ≤ n + f → p (leastFrom p f n) = true ∧ leastFrom p f n ≤ m ∧ ∀ j, n ≤ j → j < leastFrom p f n → p j = false
  | 0, n, h1, h2 => by
    have e : n = m := by omega
    subst e
    exact ⟨hm, Nat.le_refl _, fun j a b => absurd b (Nat.not_lt.mpr a)⟩
  | f + 1, n, h1, h2 => by
    unfold leastFrom
    cases e : p n with
    | true =>
      rw [if_pos rfl]
      exact ⟨e, h1, fun j a b => absurd b (Nat.not_lt.mpr a)⟩
    | false =>
      rw [if_neg Bool.false_ne_true]
      have h3 : n + 1 ≤ m := by
        rcases Nat.lt_or_ge n m with z | z
        · exact z
        · have : n = m := by omega
          subst this
          rw [hm] at e
          cases e
      obtain ⟨a, b, c⟩ := leastFrom_ok hm f (n + 1) h3 (by omega)
      refine ⟨a, b, fun j h4 h5 => ?_⟩
      rcases Nat.lt_or_ge n j with z | z
      · exact c j z h5
      · have : j = n := by omega
        subst this
        exact e
def fewK (s : S3) : Nat := leastFrom (fitsK s) (2 * s.t).toNat 0
def figsIn (s : S3) : List Int := bitsOf (fewK s) (firstK s (fewK s))
theorem lt_pow2 (n : Nat) : (n : Int) < 2 ^ n := by
  rw [← pow_nat]
  exact Int.ofNat_lt.mpr Nat.lt_two_pow_self
theorem fewK_ok {s : S3} (h : s.Good) : fitsK s (fewK s) = true ∧ ∀ j, fitsK s j = true → fewK s ≤ j := by
  have t0 := h.t0
  have hm : fitsK s (2 * s.t).toNat = true := fits_wide h (by
    have p := lt_pow2 (2 * s.t).toNat
    have m := Int.mul_le_mul_of_nonneg_right h.w1 (show (0 : Int) ≤ 2 ^ (2 * s.t).toNat by have := pow2_pos (2 * s.t).toNat; omega)
    omega)
  obtain ⟨a, b, c⟩ := leastFrom_ok hm (2 * s.t).toNat 0 (Nat.zero_le _) (by omega)
  refine ⟨a, fun j hj => ?_⟩
  rcases Nat.lt_or_ge j (fewK s) with z | z
  · have := c j (Nat.zero_le _) z
    rw [hj] at this
    cases this
  · exact z
theorem figsIn_len (s : S3) : (figsIn s).length = fewK s := bitsOf_len _ _
theorem figsIn_bits (s : S3) : Bits (figsIn s) := bitsOf_bits _ _
theorem figsIn_num {s : S3} (h : s.Good) : numOf (figsIn s) = firstK s (fewK s) := bitsOf_num _ _ (firstK_pos h _) (fits_lt h (fewK_ok h).1)
theorem figsIn_within {s : S3} (h : s.Good) : withinB (figS (figsIn s)) s = true := fits_within h (fewK_ok h).1
/-- no list of figures within it is shorter; of as many, none has a lesser number -/
theorem figsIn_least {s : S3} (h : s.Good) {fs : List Int} (hw : withinB (figS fs) s = true) : (figsIn s).length ≤ fs.length ∧ ((figsIn s).length = fs.length → numOf (figsIn s) ≤ numOf fs) := by
  obtain ⟨a, b⟩ := within_fits h hw
  have l := (fewK_ok h).2 _ a
  rw [figsIn_len, figsIn_num h]
  exact ⟨l, fun e => by rw [e]; exact b⟩
/-- just these, where a list lies within it, none shorter, none of as many ahead of it -/
theorem figsIn_is {s : S3} (h : s.Good) {fs : List Int} (hb : Bits fs) (hw : withinB (figS fs) s = true) (hl : fs.length = fewK s) (hn : numOf fs = firstK s (fewK s)) : fs = figsIn s :=
  num_inj hb (figsIn_bits s) (by rw [figsIn_len, hl]) (by rw [figsIn_num h, hn])
/-- how many there are -/
theorem fewK_bounds {s : S3} (h : s.Good) : s.t ≤ s.w * 2 ^ fewK s ∧ s.w * 2 ^ fewK s < 4 * s.t := by
  obtain ⟨a, b⟩ := fewK_ok h
  refine ⟨wide_fits h a, ?_⟩
  have t0 := h.t0
  cases e : fewK s with
  | zero =>
    have := h.l0; have := h.lw
    show s.w * 1 < 4 * s.t
    omega
  | succ n =>
    have nf : ¬ 2 * s.t ≤ s.w * 2 ^ n := fun z => by
      have := b n (fits_wide h z)
      omega
    rw [Int.pow_succ, ← Int.mul_assoc]
    omega
theorem fewK_le {s : S3} {n : Nat} (h : s.Ok n) : fewK s ≤ n + 1 := by
  have b := (fewK_bounds h.good).2
  rcases Nat.lt_or_ge (n + 1) (fewK s) with z | z
  · have p : (2 : Int) ^ (n + 2) ≤ 2 ^ fewK s := pow_mono z
    have m := Int.mul_le_mul_of_nonneg_right h.w1 (show (0 : Int) ≤ 2 ^ fewK s by have := pow2_pos (fewK s); omega)
    have e : (2 : Int) ^ (n + 2) = 2 ^ n * 4 := by rw [Int.pow_add]; rfl
    have := h.tn
    omega
  · exact z
/-! ### figures that go on -/
theorem numOf_app (fs : List Int) : ∀ gs : List Int, numOf (fs ++ gs) = numOf fs * 2 ^ gs.length + numOf gs := by
  refine foldl_snoc_ind (P := fun gs => numOf (fs ++ gs) = numOf fs * 2 ^ gs.length + numOf gs) ?_ ?_
  · rw [List.append_nil]
    show numOf fs = numOf fs * 1 + 0
    omega
  · intro l x ih
    rw [← List.append_assoc, numOf_snoc, ih, numOf_snoc, List.length_append, List.length_singleton, Int.pow_succ, ← Int.mul_assoc]
    omega
theorem figs_prefix {fs gs : List Int} (hg : Bits gs) : withinB (figS (fs ++ gs)) (figS fs) = true := by
  obtain ⟨g0, g1⟩ := numOf_ok gs hg
  have p := pow2_pos fs.length
  refine within_iff.mpr ⟨?_, ?_⟩
  · show numOf fs * 2 ^ (fs ++ gs).length ≤ numOf (fs ++ gs) * 2 ^ fs.length
    rw [numOf_app, List.length_append, Int.pow_add, Int.mul_comm (2 ^ fs.length), ← Int.mul_assoc]
    exact Int.mul_le_mul_of_nonneg_right (by omega) (by omega)
  · show (numOf (fs ++ gs) + 1) * 2 ^ fs.length ≤ (numOf fs + 1) * 2 ^ (fs ++ gs).length
    rw [numOf_app, List.length_append, Int.pow_add, Int.mul_comm (2 ^ fs.length), ← Int.mul_assoc, Int.add_mul (numOf fs)]
    exact Int.mul_le_mul_of_nonneg_right (by omega) (by omega)
/-- of figures that part: those with 0 end where, or ahead of where, those with 1 begin -/
theorem figs_part {p a b : List Int} (ha : Bits a) (hb : Bits b) : LeF (figS (p ++ 0 :: a)).hi (figS (p ++ 1 :: b)).lo := by
  obtain ⟨a0, a1⟩ := numOf_ok a ha
  obtain ⟨b0, b1⟩ := numOf_ok b hb
  show (numOf (p ++ 0 :: a) + 1) * 2 ^ (p ++ 1 :: b).length ≤ numOf (p ++ 1 :: b) * 2 ^ (p ++ 0 :: a).length
  have e0 : numOf (p ++ 0 :: a) = 2 * numOf p * 2 ^ a.length + numOf a := by
    rw [show p ++ 0 :: a = (p ++ [0]) ++ a by simp, numOf_app, numOf_snoc, Int.add_zero]
  have e1 : numOf (p ++ 1 :: b) = (2 * numOf p + 1) * 2 ^ b.length + numOf b := by
    rw [show p ++ 1 :: b = (p ++ [1]) ++ b by simp, numOf_app, numOf_snoc]
  have l0 : (2 : Int) ^ (p ++ 0 :: a).length = 2 ^ (p.length + 1) * 2 ^ a.length := by
    rw [show p ++ 0 :: a = (p ++ [0]) ++ a by simp, List.length_append, List.length_append, List.length_singleton, Int.pow_add]
  have l1 : (2 : Int) ^ (p ++ 1 :: b).length = 2 ^ (p.length + 1) * 2 ^ b.length := by
    rw [show p ++ 1 :: b = (p ++ [1]) ++ b by simp, List.length_append, List.length_append, List.length_singleton, Int.pow_add]
  rw [e0, e1, l0, l1]
  have hA := pow2_pos a.length
  have hB := pow2_pos b.length
  have hP := pow2_pos (p.length + 1)
  generalize (2 : Int) ^ a.length = A at *
  generalize (2 : Int) ^ b.length = B at *
  generalize (2 : Int) ^ (p.length + 1) = C at *
  generalize numOf p = N at *
  have m1 : 2 * N * A + numOf a + 1 ≤ (2 * N + 1) * A := by rw [Int.add_mul]; omega
  have m2 := Int.mul_le_mul_of_nonneg_right m1 (Int.mul_nonneg (show 0 ≤ C by omega) (show 0 ≤ B by omega))
  have m3 : (2 * N + 1) * B ≤ (2 * N + 1) * B + numOf b := by omega
  have m4 := Int.mul_le_mul_of_nonneg_right m3 (Int.mul_nonneg (show 0 ≤ C by omega) (show 0 ≤ A by omega))
  have e : (2 * N + 1) * A * (C * B) = (2 * N + 1) * B * (C * A) := by
    rw [Int.mul_assoc, Int.mul_assoc, Int.mul_left_comm A C B, Int.mul_left_comm B C A, Int.mul_comm A B]
  omega
end Pl

namespace Pl
open PySem PySem.Spec PyProof.Rows L2
/-! ### lists that part -/
theorem part3 : ∀ a b : List Int, (∃ r, b = a ++ r) ∨ (∃ r, a = b ++ r) ∨ ∃ p x y r q, a = p ++ x :: r ∧ b = p ++ y :: q ∧ x ≠ y
  | [], b => .inl ⟨b, rfl⟩
  | x :: a, [] => .inr (.inl ⟨x :: a, rfl⟩)
  | x :: a, y :: b => by
    by_cases e : x = y
    · subst e
      rcases part3 a b with ⟨r, h⟩ | ⟨r, h⟩ | ⟨p, u, v, r, q, h1, h2, h3⟩
      · exact .inl ⟨r, by rw [h]; rfl⟩
      · exact .inr (.inl ⟨r, by rw [h]; rfl⟩)
      · exact .inr (.inr ⟨x :: p, u, v, r, q, by rw [h1]; rfl, by rw [h2]; rfl, h3⟩)
    · exact .inr (.inr ⟨[], x, y, a, b, rfl, rfl, e⟩)
theorem bit_ne {x y : Int} (hx : 0 ≤ x ∧ x ≤ 1) (hy : 0 ≤ y ∧ y ≤ 1) (h : x ≠ y) : (x = 0 ∧ y = 1) ∨ (x = 1 ∧ y = 0) := by omega
theorem Bits.app {p r : List Int} {x : Int} (h : Bits (p ++ x :: r)) : Bits p ∧ (0 ≤ x ∧ x ≤ 1) ∧ Bits r := ⟨fun f hf => h f (List.mem_append_left _ hf), h x (by simp), fun f hf => h f (List.mem_append_right _ (List.mem_cons_of_mem _ hf))⟩
/-- figures whose stretch lies within that of others begin with those -/
theorem within_begins {fs gs : List Int} (hf : Bits fs) (hg : Bits gs) (h : withinB (figS fs) (figS gs) = true) : ∃ r, fs = gs ++ r := by
  rcases part3 fs gs with ⟨r, e⟩ | ⟨r, e⟩ | ⟨p, x, y, r, q, e1, e2, hne⟩
  · obtain ⟨h1, h2⟩ := within_iff.mp h
    have h1 : numOf gs * 2 ^ fs.length ≤ numOf fs * 2 ^ gs.length := h1
    have h2 : (numOf fs + 1) * 2 ^ gs.length ≤ (numOf gs + 1) * 2 ^ fs.length := h2
    rw [Int.add_mul, Int.add_mul] at h2
    have p1 : (2 : Int) ^ gs.length ≤ 2 ^ fs.length := by omega
    have l : gs.length ≤ fs.length := by
      rcases Nat.lt_or_ge fs.length gs.length with z | z
      · have p2 : (2 : Int) ^ (fs.length + 1) ≤ 2 ^ gs.length := pow_mono z
        rw [Int.pow_succ] at p2
        have := pow2_pos fs.length
        omega
      · exact z
    have lr := congrArg List.length e
    rw [List.length_append] at lr
    have : r = [] := List.eq_nil_of_length_eq_zero (by omega)
    subst this
    exact ⟨[], by rw [e, List.append_nil, List.append_nil]⟩
  · exact ⟨r, e⟩
  · exfalso
    subst e1 e2
    obtain ⟨bp, bx, br⟩ := hf.app
    obtain ⟨_, by_, bq⟩ := hg.app
    rcases bit_ne bx by_ hne with ⟨rfl, rfl⟩ | ⟨rfl, rfl⟩
    · exact apart (figS_good hf) (figS_good hg) (figS_good hf) (within_self _) h (figs_part br bq)
    · exact apart (figS_good hg) (figS_good hf) (figS_good hf) h (within_self _) (figs_part bq br)
/-! ### parts -/
def partAt (now : S3) (cs : List Int) (x : Int) : S3 := now.by (belowOf cs x) (nth cs x) cs.sum
theorem part_good {now : S3} {cs : List Int} {g x : Int} (h : now.Good) (p : Plan cs g) (h0 : 0 ≤ x) (h1 : x < cs.length) : (partAt now cs x).Good := by
  have hs := plan_share p h0 h1
  have l0 := h.l0; have w1 := h.w1; have lw := h.lw; have t0 := h.t0
  have b0 := hs.b0; have c1 := hs.c1; have bc := hs.bc
  have m1 : 0 ≤ now.l * cs.sum := Int.mul_nonneg l0 (by omega)
  have m2 : 0 ≤ now.w * belowOf cs x := Int.mul_nonneg (by omega) b0
  have m3 : now.w * 1 ≤ now.w * nth cs x := Int.mul_le_mul_of_nonneg_left c1 (by omega)
  have m4 : now.w * (belowOf cs x + nth cs x) ≤ now.w * cs.sum := Int.mul_le_mul_of_nonneg_left bc (by omega)
  have m5 : (now.l + now.w) * cs.sum ≤ now.t * cs.sum := Int.mul_le_mul_of_nonneg_right lw (by omega)
  rw [Int.mul_add] at m4
  rw [Int.add_mul] at m5
  refine ⟨?_, ?_, ?_⟩
  · show 0 ≤ now.l * cs.sum + now.w * belowOf cs x
    omega
  · show 1 ≤ now.w * nth cs x
    omega
  · show now.l * cs.sum + now.w * belowOf cs x + now.w * nth cs x ≤ now.t * cs.sum
    omega
theorem part_within {now : S3} {cs : List Int} {g x : Int} (h : now.Good) (p : Plan cs g) (h0 : 0 ≤ x) (h1 : x < cs.length) : withinB (partAt now cs x) now = true := by
  have hs := plan_share p h0 h1
  have w1 := h.w1; have t0 := h.t0
  have b0 := hs.b0; have bc := hs.bc
  have m2 : 0 ≤ now.w * belowOf cs x := Int.mul_nonneg (by omega) b0
  have m4 : now.w * (belowOf cs x + nth cs x) ≤ now.w * cs.sum := Int.mul_le_mul_of_nonneg_left bc (by omega)
  rw [Int.mul_add] at m4
  refine within_iff.mpr ⟨?_, ?_⟩
  · show now.l * (now.t * cs.sum) ≤ (now.l * cs.sum + now.w * belowOf cs x) * now.t
    rw [Int.mul_comm now.t, ← Int.mul_assoc]
    exact Int.mul_le_mul_of_nonneg_right (by omega) (by omega)
  · show (now.l * cs.sum + now.w * belowOf cs x + now.w * nth cs x) * now.t ≤ (now.l + now.w) * (now.t * cs.sum)
    rw [Int.mul_comm now.t, ← Int.mul_assoc, Int.add_mul now.l]
    exact Int.mul_le_mul_of_nonneg_right (by omega) (by omega)
theorem below_mono {cs : List Int} {g x y : Int} (p : Plan cs g) (h0 : 0 ≤ x) (hxy : x < y) (h1 : y < cs.length) : belowOf cs x + nth cs x ≤ belowOf cs y := by
  obtain ⟨i, rfl⟩ := Int.eq_ofNat_of_zero_le h0
  obtain ⟨j, rfl⟩ := Int.eq_ofNat_of_zero_le (show 0 ≤ y by omega)
  have e : belowOf cs (i : Int) + nth cs (i : Int) = (cs.take (i + 1)).sum := by
    rw [take_succ_sum (by omega)]
    show (cs.take (i : Int).toNat).sum + _ = _
    rw [Int.toNat_natCast]
  have e2 : belowOf cs (j : Int) = (cs.take j).sum := by
    show (cs.take (j : Int).toNat).sum = _
    rw [Int.toNat_natCast]
  rw [e, e2]
  have e3 : cs.take j = cs.take (i + 1) ++ (cs.take j).drop (i + 1) := by
    have := (List.take_append_drop (i + 1) (cs.take j)).symm
    rw [List.take_take, Nat.min_eq_left (by omega)] at this
    exact this
  rw [e3, List.sum_append]
  have := sum_nonneg (l := (cs.take j).drop (i + 1)) fun c hc => by have := p.pos c (List.mem_of_mem_take (List.mem_of_mem_drop hc)); omega
  omega
/-- a lesser sign's part ends where, or ahead of where, a greater one's begins -/
theorem parts_order {now : S3} {cs : List Int} {g x y : Int} (h : now.Good) (p : Plan cs g) (h0 : 0 ≤ x) (hxy : x < y) (h1 : y < cs.length) : LeF (partAt now cs x).hi (partAt now cs y).lo := by
  have m := below_mono p h0 hxy h1
  have hs := plan_share p h0 (show x < cs.length by omega)
  have w1 := h.w1; have t0 := h.t0
  have m4 : now.w * (belowOf cs x + nth cs x) ≤ now.w * belowOf cs y := Int.mul_le_mul_of_nonneg_left m (by omega)
  rw [Int.mul_add] at m4
  show (now.l * cs.sum + now.w * belowOf cs x + now.w * nth cs x) * (now.t * cs.sum) ≤ (now.l * cs.sum + now.w * belowOf cs y) * (now.t * cs.sum)
  refine Int.mul_le_mul_of_nonneg_right (by omega) (Int.mul_nonneg (by omega) ?_)
  have := hs.b0; have := hs.c1; have := hs.bc
  omega
theorem str_cons (now : S3) (cs : List Int) (g x : Int) (r : List Int) : strOf now cs g (x :: r) = strOf (partAt now cs x) (grown cs g x) g r := rfl
def Signs (n : Nat) (ss : List Int) : Prop := ∀ x ∈ ss, 0 ≤ x ∧ x < n
theorem Signs.grown {cs : List Int} {g x : Int} {ss : List Int} (h : Signs cs.length ss) : Signs (grown cs g x).length ss := by rw [grown_len]; exact h
theorem str_good {g : Int} : ∀ {ss : List Int} {now : S3} {cs : List Int}, now.Good → Plan cs g → Signs cs.length ss → (strOf now cs g ss).Good
  | [], _, _, h, _, _ => h
  | x :: r, now, cs, h, p, hx => by
    have h1 := hx x List.mem_cons_self
    exact str_good (ss := r) (now := partAt now cs x) (cs := grown cs g x) (part_good h p h1.1 h1.2) (p.grown h1.1 h1.2) (Signs.grown fun y hy => hx y (List.mem_cons_of_mem _ hy))
theorem str_within {g : Int} : ∀ {ss : List Int} {now : S3} {cs : List Int}, now.Good → Plan cs g → Signs cs.length ss → withinB (strOf now cs g ss) now = true
  | [], _, _, _, _, _ => within_self _
  | x :: r, now, cs, h, p, hx => by
    have h1 := hx x List.mem_cons_self
    have g1 := part_good h p h1.1 h1.2
    have p1 := p.grown h1.1 h1.2
    have s1 : Signs (grown cs g x).length r := Signs.grown fun y hy => hx y (List.mem_cons_of_mem _ hy)
    exact within_trans (b := partAt now cs x) (str_good (ss := r) (now := partAt now cs x) (cs := grown cs g x) g1 p1 s1) g1 h (str_within (ss := r) (now := partAt now cs x) (cs := grown cs g x) g1 p1 s1) (part_within h p h1.1 h1.2)
theorem str_app {g : Int} : ∀ {ss rs : List Int} {now : S3} {cs : List Int}, strOf now cs g (ss ++ rs) = strOf (strOf now cs g ss) (after cs g ss) g rs
  | [], _, _, _ => rfl
  | _ :: r, _, _, _ => str_app (ss := r)
/-- texts that part: the one with the lesser sign ends where, or ahead of where, the other begins -/
theorem str_part {g x y : Int} {p r q : List Int} {now : S3} {cs : List Int} (h : now.Good) (pl : Plan cs g) (ha : Signs cs.length (p ++ x :: r)) (hb : Signs cs.length (p ++ y :: q)) (hxy : x < y) : LeF (strOf now cs g (p ++ x :: r)).hi (strOf now cs g (p ++ y :: q)).lo := by
  have hp : Signs cs.length p := fun z hz => ha z (List.mem_append_left _ hz)
  obtain ⟨pa, la⟩ := after_ok pl hp
  have gp := str_good h pl hp
  have hx := ha x (by simp)
  have hy := hb y (by simp)
  have gx := part_good gp pa hx.1 (by rw [la]; exact hx.2)
  have gy := part_good gp pa hy.1 (by rw [la]; exact hy.2)
  have px := pa.grown hx.1 (show x < (after cs g p).length by rw [la]; exact hx.2)
  have py := pa.grown hy.1 (show y < (after cs g p).length by rw [la]; exact hy.2)
  have sr : Signs (grown (after cs g p) g x).length r := by rw [grown_len, la]; exact fun z hz => ha z (List.mem_append_right _ (List.mem_cons_of_mem _ hz))
  have sq : Signs (grown (after cs g p) g y).length q := by rw [grown_len, la]; exact fun z hz => hb z (List.mem_append_right _ (List.mem_cons_of_mem _ hz))
  rw [str_app, str_app, str_cons, str_cons]
  have o := parts_order gp pa hx.1 hxy (by rw [la]; exact hy.2)
  obtain ⟨_, w1⟩ := within_iff.mp (str_within gx px sr)
  obtain ⟨w2, _⟩ := within_iff.mp (str_within gy py sq)
  have g1 := str_good gx px sr
  have g2 := str_good gy py sq
  exact (w1.trans o g1.t0 gx.t0 gy.t0).trans w2 g1.t0 gy.t0 g2.t0
/-! ### certain by figures -/
def signIn (goal now : S3) (cs : List Int) : Option Nat := (List.range cs.length).find? fun (x : Nat) => withinB goal (partAt now cs (x : Int))
def certainOf (goal : S3) (g : Int) : Nat → S3 → List Int → List Int
  | 0, _, _ => []
  | m + 1, now, cs => match signIn goal now cs with
    | none => []
    | some x => (x : Int) :: certainOf goal g m (partAt now cs (x : Int)) (grown cs g (x : Int))
theorem signIn_some {goal now : S3} {cs : List Int} {x : Nat} (h : signIn goal now cs = some x) : x < cs.length ∧ withinB goal (partAt now cs (x : Int)) = true := by
  have h1 := List.mem_of_find?_eq_some h
  have h2 := List.find?_some h
  exact ⟨List.mem_range.mp h1, h2⟩
theorem signIn_is {goal now : S3} {cs : List Int} {g : Int} {x : Nat} (gg : goal.Good) (h : now.Good) (p : Plan cs g) (hx : x < cs.length) (hw : withinB goal (partAt now cs (x : Int)) = true) : signIn goal now cs = some x := by
  cases e : signIn goal now cs with
  | none =>
    have := List.find?_eq_none.mp e x (List.mem_range.mpr hx)
    exact absurd hw this
  | some y =>
    obtain ⟨hy, wy⟩ := signIn_some e
    have gx := part_good h p (x := (x : Int)) (by omega) (by omega)
    have gy := part_good h p (x := (y : Int)) (by omega) (by omega)
    rcases Nat.lt_trichotomy x y with z | z | z
    · exact absurd (parts_order h p (by omega) (by omega) (by omega)) (apart gx gy gg hw wy)
    · rw [z]
    · exact absurd (parts_order h p (by omega) (by omega) (by omega)) (apart gy gx gg wy hw)
theorem certain_signs {goal : S3} {g : Int} : ∀ {m : Nat} {now : S3} {cs : List Int}, Plan cs g → (certainOf goal g m now cs).length ≤ m ∧ Signs cs.length (certainOf goal g m now cs)
  | 0, _, _, _ => ⟨Nat.le_refl _, fun _ h => nomatch h⟩
  | m + 1, now, cs, p => by
    unfold certainOf
    cases e : signIn goal now cs with
    | none => exact ⟨Nat.zero_le _, fun _ h => nomatch h⟩
    | some x =>
      obtain ⟨hx, _⟩ := signIn_some e
      have p1 := p.grown (s := (x : Int)) (by omega) (by omega)
      obtain ⟨a, b⟩ := certain_signs (goal := goal) (m := m) (now := partAt now cs (x : Int)) p1
      refine ⟨by rw [List.length_cons]; omega, fun y hy => ?_⟩
      rcases List.mem_cons.mp hy with rfl | hy
      · omega
      · have := b y hy
        rw [grown_len] at this
        exact this
/-- its text's stretch holds the goal -/
theorem certain_within {goal : S3} {g : Int} : ∀ {m : Nat} {now : S3} {cs : List Int}, withinB goal now = true → withinB goal (strOf now cs g (certainOf goal g m now cs)) = true
  | 0, _, _, h => h
  | m + 1, now, cs, h => by
    unfold certainOf
    cases e : signIn goal now cs with
    | none => exact h
    | some x => exact certain_within (signIn_some e).2
/-- of a text that holds the goal the first signs come back -/
theorem certain_back {goal : S3} {g : Int} (gg : goal.Good) : ∀ {ss : List Int} {m : Nat} {now : S3} {cs : List Int}, now.Good → Plan cs g → Signs cs.length ss → withinB goal (strOf now cs g ss) = true → m ≤ ss.length → certainOf goal g m now cs = ss.take m
  | _, 0, _, _, _, _, _, _, _ => by rw [List.take_zero]; rfl
  | [], m + 1, _, _, _, _, _, _, hm => absurd hm (by simp)
  | x :: r, m + 1, now, cs, h, p, hs, hw, hm => by
    have hx := hs x List.mem_cons_self
    have g1 := part_good h p hx.1 hx.2
    have p1 := p.grown hx.1 hx.2
    have s1 : Signs (grown cs g x).length r := Signs.grown fun y hy => hs y (List.mem_cons_of_mem _ hy)
    obtain ⟨i, rfl⟩ := Int.eq_ofNat_of_zero_le hx.1
    have w1 : withinB goal (partAt now cs (i : Int)) = true := within_trans gg (str_good g1 p1 s1) g1 hw (str_within g1 p1 s1)
    unfold certainOf
    rw [signIn_is gg h p (by omega) w1, List.take_succ_cons]
    show (i : Int) :: _ = _
    rw [certain_back gg g1 p1 s1 hw (by simpa using hm)]
end Pl

namespace Pl
open PySem PySem.Spec PyProof.Rows L2
/-! ### certain by signs -/
def sureStep (s : S3) (fs : List Int) : Option Int := if withinB s (figS (fs ++ [0])) then some 0 else if withinB s (figS (fs ++ [1])) then some 1 else none
def sureGo (s : S3) : Nat → List Int → List Int
  | 0, fs => fs
  | n + 1, fs => match sureStep s fs with
    | none => fs
    | some f => sureGo s n (fs ++ [f])
def sureOf (s : S3) : List Int := sureGo s s.t.toNat []
theorem sureStep_some {s : S3} {fs : List Int} {f : Int} (h : sureStep s fs = some f) : (f = 0 ∨ f = 1) ∧ withinB s (figS (fs ++ [f])) = true := by
  unfold sureStep at h
  split at h
  · cases h; exact ⟨.inl rfl, by assumption⟩
  · split at h
    · cases h; exact ⟨.inr rfl, by assumption⟩
    · cases h
theorem sureStep_none {s : S3} {fs : List Int} (h : sureStep s fs = none) : ∀ f, (0 ≤ f ∧ f ≤ 1) → withinB s (figS (fs ++ [f])) = false := by
  intro f hf
  unfold sureStep at h
  split at h
  · cases h
  · rename_i n0
    split at h
    · cases h
    · rename_i n1
      have : f = 0 ∨ f = 1 := by omega
      rcases this with rfl | rfl
      · exact Bool.eq_false_iff.mpr n0
      · exact Bool.eq_false_iff.mpr n1
theorem bits_snoc {fs : List Int} {f : Int} (h : Bits fs) (hf : f = 0 ∨ f = 1) : Bits (fs ++ [f]) := fun x hx => by
  rcases List.mem_append.mp hx with hx | hx
  · exact h x hx
  · rw [List.mem_singleton.mp hx]
    omega
/-- figures that hold a stretch are few -/
theorem sure_few {s : S3} (h : s.Good) {fs : List Int} (hb : Bits fs) (hw : withinB s (figS fs) = true) : (2 : Int) ^ fs.length * s.w ≤ s.t := by
  obtain ⟨h1, h2⟩ := within_iff.mp hw
  have h1 : numOf fs * s.t ≤ s.l * 2 ^ fs.length := h1
  have h2 : (s.l + s.w) * 2 ^ fs.length ≤ (numOf fs + 1) * s.t := h2
  rw [Int.add_mul, Int.add_mul] at h2
  rw [Int.mul_comm]
  omega
theorem sureGo_ok {s : S3} (h : s.Good) : ∀ (n : Nat) (fs : List Int), Bits fs → withinB s (figS fs) = true → s.t.toNat ≤ fs.length + n → Bits (sureGo s n fs) ∧ withinB s (figS (sureGo s n fs)) = true ∧ sureStep s (sureGo s n fs) = none
  | 0, fs, hb, hw, hn => by
    have t0 := h.t0
    have f := sure_few h hb hw
    have p := lt_pow2 fs.length
    have m := Int.mul_le_mul_of_nonneg_left h.w1 (show (0 : Int) ≤ 2 ^ fs.length by have := pow2_pos fs.length; omega)
    exfalso
    omega
  | n + 1, fs, hb, hw, hn => by
    unfold sureGo
    cases e : sureStep s fs with
    | none => exact ⟨hb, hw, e⟩
    | some f =>
      obtain ⟨hf, w⟩ := sureStep_some e
      exact sureGo_ok h n _ (bits_snoc hb hf) w (by rw [List.length_append, List.length_singleton]; omega)
theorem figS_nil : figS [] = whole3 := rfl
theorem in_whole {s : S3} (h : s.Good) : withinB s whole3 = true := within_iff.mpr ⟨by
    show 0 * s.t ≤ s.l * 1
    have := h.l0
    omega, by
    show (s.l + s.w) * 1 ≤ (0 + 1) * s.t
    have := h.lw
    omega⟩
theorem sure_ok {s : S3} (h : s.Good) : Bits (sureOf s) ∧ withinB s (figS (sureOf s)) = true ∧ sureStep s (sureOf s) = none :=
  sureGo_ok h s.t.toNat [] (fun _ z => nomatch z) (in_whole h) (by omega)
/-- the longest: all figures that hold it begin these -/
theorem sure_longest {s : S3} (h : s.Good) {gs : List Int} (hg : Bits gs) (hw : withinB s (figS gs) = true) : ∃ r, sureOf s = gs ++ r := by
  obtain ⟨hb, w, no⟩ := sure_ok h
  rcases part3 (sureOf s) gs with ⟨r, e⟩ | ⟨r, e⟩ | ⟨p, x, y, r, q, e1, e2, hne⟩
  · cases r with
    | nil => exact ⟨[], by rw [e, List.append_nil, List.append_nil]⟩
    | cons f r =>
      exfalso
      have e' : gs = (sureOf s ++ [f]) ++ r := by rw [e]; simp
      rw [e'] at hg hw
      have b1 : Bits (sureOf s ++ [f]) := fun x hx => hg x (List.mem_append_left _ hx)
      have b2 : Bits r := fun x hx => hg x (List.mem_append_right _ hx)
      have q := within_trans h (figS_good hg) (figS_good b1) hw (figs_prefix b2)
      have := sureStep_none no f (b1 f (by simp))
      rw [q] at this
      cases this
  · exact ⟨r, e⟩
  · exfalso
    rw [e1] at hb w
    subst e2
    obtain ⟨_, bx, br⟩ := hb.app
    obtain ⟨_, by_, bq⟩ := hg.app
    rcases bit_ne bx by_ hne with ⟨rfl, rfl⟩ | ⟨rfl, rfl⟩
    · exact apart (figS_good hb) (figS_good hg) h w hw (figs_part br bq)
    · exact apart (figS_good hg) (figS_good hb) h hw w (figs_part bq br)
/-- with what is certain by signs begin the figures of what lies within, and what is certain by more signs -/
theorem sure_begins {s u : S3} (h : s.Good) (hu : u.Good) (w : withinB u s = true) {fs : List Int} (hf : Bits fs) (hw : withinB (figS fs) u = true) : ∃ r, fs = sureOf s ++ r := by
  obtain ⟨hb, w2, _⟩ := sure_ok h
  have gf := figS_good hf
  exact within_begins hf hb (within_trans gf h (figS_good hb) (within_trans gf hu h hw w) w2)
theorem sure_grows {s u : S3} (h : s.Good) (hu : u.Good) (w : withinB u s = true) : ∃ r, sureOf u = sureOf s ++ r := by
  obtain ⟨hb, w2, _⟩ := sure_ok h
  exact sure_longest hu hb (within_trans hu h (figS_good hb) w w2)
theorem sure_len {s : S3} (h : s.Good) {n : Nat} (ht : s.t < 2 ^ n) : (sureOf s).length ≤ n := by
  obtain ⟨hb, w2, _⟩ := sure_ok h
  have f := sure_few h hb w2
  have m := Int.mul_le_mul_of_nonneg_left h.w1 (show (0 : Int) ≤ 2 ^ (sureOf s).length by have := pow2_pos (sureOf s).length; omega)
  rcases Nat.lt_or_ge n (sureOf s).length with z | z
  · have := pow_mono (Nat.le_of_lt z)
    omega
  · exact z
/-! ### certain by figures, more of it -/
theorem certain_take {goal : S3} {g : Int} : ∀ {m k : Nat} {now : S3} {cs : List Int}, k ≤ m → (certainOf goal g m now cs).take k = certainOf goal g k now cs
  | _, 0, _, _, _ => by rw [List.take_zero]; rfl
  | m + 1, k + 1, now, cs, h => by
    unfold certainOf
    cases e : signIn goal now cs with
    | none => exact List.take_nil
    | some x =>
      show (((x : Int) :: certainOf goal g m _ _).take (k + 1)) = (x : Int) :: certainOf goal g k _ _
      rw [List.take_succ_cons, certain_take (by omega)]
/-- more figures: no sign is taken back -/
theorem certain_grows {goal goal' : S3} {g : Int} {m : Nat} {now : S3} {cs : List Int} (gg : goal.Good) (gg' : goal'.Good) (h : now.Good) (p : Plan cs g) (w : withinB goal' goal = true) (hn : withinB goal now = true) : ∃ r, certainOf goal' g m now cs = certainOf goal g m now cs ++ r := by
  obtain ⟨l, s⟩ := certain_signs (goal := goal) (m := m) (now := now) p
  have w1 := certain_within (g := g) (m := m) (cs := cs) hn
  have b := certain_back gg' h p s (within_trans gg' gg (str_good h p s) w w1) (Nat.le_refl _)
  rw [List.take_length, ← certain_take l] at b
  exact ⟨(certainOf goal' g m now cs).drop (certainOf goal g m now cs).length, by
    have := (List.take_append_drop (certainOf goal g m now cs).length (certainOf goal' g m now cs)).symm
    rw [b] at this
    exact this⟩
/-! ### texts whose stretches share something -/
theorem part_less {now : S3} {cs : List Int} {g x : Int} (h : now.Good) (p : Plan cs g) (h0 : 0 ≤ x) (h1 : x < cs.length) : withinB now (partAt now cs x) = false := by
  rw [Bool.eq_false_iff]
  intro z
  obtain ⟨z1, z2⟩ := within_iff.mp z
  have z1 : (now.l * cs.sum + now.w * belowOf cs x) * now.t ≤ now.l * (now.t * cs.sum) := z1
  have z2 : (now.l + now.w) * (now.t * cs.sum) ≤ (now.l * cs.sum + now.w * belowOf cs x + now.w * nth cs x) * now.t := z2
  have w1 := h.w1; have t0 := h.t0
  have hs := plan_share p h0 h1
  have b0 := hs.b0; have c1 := hs.c1; have bc := hs.bc
  rw [Int.mul_comm now.t, ← Int.mul_assoc] at z1 z2
  have y1 := Int.le_of_mul_le_mul_right z1 t0
  have y2 := Int.le_of_mul_le_mul_right z2 t0
  rw [Int.add_mul] at y2
  have m : now.w * (cs.sum - nth cs x) ≤ 0 := by
    rw [Int.mul_sub]
    omega
  have lt : nth cs x < cs.sum := by
    have l2 := p.two
    rcases Int.lt_or_le 0 x with z | z
    · have := below_mono p (x := 0) (y := x) (by omega) z h1
      have q := plan_share p (s := 0) (by omega) (by omega)
      have := q.b0; have := q.c1
      omega
    · have e : x = 0 := by omega
      subst e
      have := below_mono p (x := 0) (y := 1) (by omega) (by omega) (by omega)
      have q := plan_share p (s := 1) (by omega) (by omega)
      have := q.c1; have := q.bc
      omega
  have m2 := Int.mul_pos (show 0 < now.w by omega) (show 0 < cs.sum - nth cs x by omega)
  omega
/-- a text whose stretch holds another text's stretch begins that text -/
theorem text_begins {now : S3} {cs : List Int} {g : Int} {a b : List Int} (h : now.Good) (p : Plan cs g) (ha : Signs cs.length a) (hb : Signs cs.length b) (w : withinB (strOf now cs g b) (strOf now cs g a) = true) : ∃ r, b = a ++ r := by
  have ga := str_good h p ha
  have gb := str_good h p hb
  rcases part3 a b with ⟨r, e⟩ | ⟨r, e⟩ | ⟨q, x, y, r, u, e1, e2, hne⟩
  · exact ⟨r, e⟩
  · cases r with
    | nil => exact ⟨[], by rw [e, List.append_nil, List.append_nil]⟩
    | cons x r =>
      exfalso
      subst e
      obtain ⟨pa, la⟩ := after_ok p hb
      have hx := ha x (by simp)
      have g1 := part_good gb pa hx.1 (by rw [la]; exact hx.2)
      have p1 := pa.grown hx.1 (show x < (after cs g b).length by rw [la]; exact hx.2)
      have s1 : Signs (grown (after cs g b) g x).length r := by rw [grown_len, la]; exact fun z hz => ha z (List.mem_append_right _ (List.mem_cons_of_mem _ hz))
      rw [str_app, str_cons] at w ga
      have q := within_trans gb ga g1 w (str_within g1 p1 s1)
      rw [part_less gb pa hx.1 (by rw [la]; exact hx.2)] at q
      cases q
  · exfalso
    subst e1 e2
    rcases Int.lt_or_gt_of_ne hne with z | z
    · exact apart ga gb gb w (within_self _) (str_part h p ha hb z)
    · exact apart gb ga gb (within_self _) w (str_part h p hb ha z)
/-- unlike texts with as many signs: no figures within one begin with figures within the other -/
theorem figs_unlike {now : S3} {cs : List Int} {g : Int} {a b : List Int} (h : now.Good) (p : Plan cs g) (ha : Signs cs.length a) (hb : Signs cs.length b) (hl : a.length = b.length) (hne : a ≠ b) {fs gs : List Int} (hf : Bits fs) (hg : Bits gs) (wf : withinB (figS fs) (strOf now cs g a) = true) (wg : withinB (figS (fs ++ gs)) (strOf now cs g b) = true) : False := by
  have ga := str_good h p ha
  have gb := str_good h p hb
  have bfg : Bits (fs ++ gs) := fun x hx => by
    rcases List.mem_append.mp hx with hx | hx
    · exact hf x hx
    · exact hg x hx
  have gfg := figS_good bfg
  have wa := within_trans gfg (figS_good hf) ga (figs_prefix hg) wf
  rcases part3 a b with ⟨r, e⟩ | ⟨r, e⟩ | ⟨q, x, y, r, u, e1, e2, hxy⟩
  · have : r = [] := List.eq_nil_of_length_eq_zero (by rw [e, List.length_append] at hl; omega)
    subst this
    exact hne (by rw [e, List.append_nil])
  · have : r = [] := List.eq_nil_of_length_eq_zero (by rw [e, List.length_append] at hl; omega)
    subst this
    exact hne (by rw [e, List.append_nil])
  · subst e1 e2
    rcases Int.lt_or_gt_of_ne hxy with z | z
    · exact apart ga gb gfg wa wg (str_part h p ha hb z)
    · exact apart gb ga gfg wg wa (str_part h p hb ha z)
/-- the figures stand in the order of the texts -/
theorem figs_order {now : S3} {cs : List Int} {g x y : Int} {p r q fs gs : List Int} (h : now.Good) (pl : Plan cs g) (ha : Signs cs.length (p ++ x :: r)) (hb : Signs cs.length (p ++ y :: q)) (hxy : x < y) (hf : Bits fs) (hg : Bits gs) (wf : withinB (figS fs) (strOf now cs g (p ++ x :: r)) = true) (wg : withinB (figS gs) (strOf now cs g (p ++ y :: q)) = true) : ∃ p' r' q', fs = p' ++ 0 :: r' ∧ gs = p' ++ 1 :: q' := by
  have ga := str_good h pl ha
  have gb := str_good h pl hb
  have gf := figS_good hf
  have gg := figS_good hg
  have o := str_part h pl ha hb hxy
  rcases part3 fs gs with ⟨u, e⟩ | ⟨u, e⟩ | ⟨p', x', y', r', q', e1, e2, hne⟩
  · subst e
    have bu : Bits u := fun z hz => hg z (List.mem_append_right _ hz)
    exact absurd o (apart ga gb gg (within_trans gg gf ga (figs_prefix bu) wf) wg)
  · subst e
    have bu : Bits u := fun z hz => hf z (List.mem_append_right _ hz)
    exact absurd o (apart ga gb gf wf (within_trans gf gg gb (figs_prefix bu) wg))
  · subst e1 e2
    obtain ⟨_, bx, br⟩ := hf.app
    obtain ⟨_, by_, bq⟩ := hg.app
    rcases bit_ne bx by_ hne with ⟨rfl, rfl⟩ | ⟨rfl, rfl⟩
    · exact ⟨p', r', q', rfl, rfl⟩
    · exfalso
      have o2 := figs_part (p := p') bq br
      obtain ⟨_, w1⟩ := within_iff.mp wf
      obtain ⟨w2, _⟩ := within_iff.mp wg
      have z1 := ((w1.trans o gf.t0 ga.t0 gb.t0).trans w2 gf.t0 gb.t0 gg.t0).trans (gg.lohi.le.trans o2 gg.t0 gg.t0 gf.t0) gf.t0 gg.t0 gf.t0
      exact gf.lohi.not_le z1
end Pl

namespace Pl
open PySem PySem.Spec PyProof.Rows L2
/-- a < b of data of like kinds -/
def rLtD (K : PySem.W.Frag) : R2 := fun x y H Q => ∃ d e, Dp K H x d ∧ Dp K H y e ∧ PySem.W.alike d e = true ∧ d ≠ .none ∧ d.depth ≤ 64 ∧ Q (.bl (PySem.W.dataLt d e)) H
theorem op_ltDK {X : Cx} {K : PySem.W.Frag} (hK : X.K = K) (hu : X.A.units + 64 < cLine) : OpR X (compareOp .Lt) (rLtD K) := by
  subst hK
  intro pins s σ H x y v u Q I rx ry h
  obtain ⟨d, e, hd, he, al, hn, hz, q⟩ := h
  obtain ⟨as, r1⟩ := Dp.reads I d x v hd rx
  obtain ⟨bs, r2⟩ := Dp.reads I e y u he ry
  exact PySem.W.lt_data r1 r2 al hn (by have := Nat.min_le_left d.depth e.depth; omega) ⟨.bl _, H, I, rfl, q⟩
theorem alike_ints : ∀ ns ms : List Int, PySem.W.alikeAll (ns.map PyData.int) (ms.map PyData.int) = true
  | [], _ => by rw [List.map_nil, PySem.W.alikeAll]
  | _ :: _, [] => by rw [List.map_nil, List.map_cons]; rfl
  | n :: ns, m :: ms => by
    rw [List.map_cons, List.map_cons, PySem.W.alikeAll, alike_ints ns ms]
    rfl
theorem lt_part : ∀ {p : List Int} {x y : Int} {r q : List Int}, x ≠ y → PyProof.Rows.lexLt itemOrd (PySem.W.keyToksAll ((p ++ x :: r).map PyData.int)) (PySem.W.keyToksAll ((p ++ y :: q).map PyData.int)) = PySem.W.dataLt (.int x) (.int y)
  | [], x, y, r, q, h => PySem.W.dataLt_all_no (x := .int x) (y := .int y) (by rw [PySem.W.alike]) (by
      show PyData.eqv (.int x) (.int y) = false
      unfold PyData.eqv
      exact beq_eq_false_iff_ne.mpr h)
  | z :: p, x, y, r, q, h => (PySem.W.dataLt_all_yes (x := .int z) (y := .int z) (by rw [PySem.W.alike]) (by
      unfold PyData.eqv
      exact beq_self_eq_true z)).trans (lt_part (p := p) h)
theorem ltList_part {p : List Int} {x y : Int} {r q : List Int} (h : x ≠ y) : PySem.W.dataLt (.list ((p ++ x :: r).map PyData.int)) (.list ((p ++ y :: q).map PyData.int)) = decide (x < y) := by
  rw [PySem.W.dataLt_list, lt_part h, PySem.W.dataLt_int]
theorem ev_ltL {K : PySem.W.Frag} {ta tb : TE} {σ : L2.St} {H : Hp} {ns ms : List Int} (ha : EvD K ta σ H (.list (ns.map PyData.int))) (hb : EvD K tb σ H (.list (ms.map PyData.int))) : EvV (tOp (rLtD K) ta tb) σ H (.bl (PySem.W.dataLt (.list (ns.map PyData.int)) (.list (ms.map PyData.int)))) := fun H1 Q s1 k =>
  ha H1 _ s1 fun v H2 s2 d2 => hb H2 _ (s1.trans s2) fun u H3 s3 d3 => ⟨_, _, dp_same s3 _ _ d2, d3, by rw [PySem.W.alike]; exact alike_ints ns ms, (fun z => nomatch z), Nat.le_trans (show ShN 1 (.list (ns.map PyData.int)) from sh_lst sh_ints).2 (by omega), k H3 (s2.trans s3)⟩
end Pl

namespace Pl
open PySem PySem.Spec PyProof.Rows L2
/-! ### shifts, masks -/
def rShl : R2 := fun x y H Q => ∃ (i : Int) (k : Nat), x = .int i ∧ y = .int (k : Int) ∧ CShl i (k : Int) ∧ Q (.int (i * 2 ^ k)) H
def rShr : R2 := fun x y H Q => ∃ (i : Int) (k : Nat), x = .int i ∧ y = .int (k : Int) ∧ Q (.int (i / 2 ^ k)) H
def rAnd1 : R2 := fun x y H Q => ∃ i : Int, x = .int i ∧ y = .int 1 ∧ Q (.int (i % 2)) H
section
variable {X : Cx}
theorem op_shlP : OpR X (binaryOp .LShift) rShl := op_shlN
theorem op_shrP : OpR X (binaryOp .RShift) rShr := op_shrN
theorem op_and1 : OpR X (binaryOp .BitAnd) rAnd1 := by
  intro pins s σ H x y v u Q I rx ry h
  obtain ⟨i, rfl, rfl, q⟩ := h
  exact op_andM pins s σ H _ _ v u Q I rx ry ⟨i, 1, rfl, rfl, q⟩
end
section
variable {K : PySem.W.Frag} {te ta tb tc : TE} {tt : TT} {σ : L2.St} {H : Hp} {i : Int} {k : Nat} {d1 d2 d : PyData} {D : Ends} {u tw : TS} {a b : Nat}
theorem ev_shl (ha : EvV ta σ H (.int i)) (hb : EvV tb σ H (.int (k : Int))) (hc : CShl i (k : Int)) : EvV (tOp rShl ta tb) σ H (.int (i * 2 ^ k)) := fun H1 Q s1 q =>
  ha H1 _ s1 fun H2 s2 => hb H2 _ (s1.trans s2) fun H3 s3 => ⟨i, k, rfl, rfl, hc, q H3 (s2.trans s3)⟩
theorem ev_shr (ha : EvV ta σ H (.int i)) (hb : EvV tb σ H (.int (k : Int))) : EvV (tOp rShr ta tb) σ H (.int (i / 2 ^ k)) := fun H1 Q s1 q =>
  ha H1 _ s1 fun H2 s2 => hb H2 _ (s1.trans s2) fun H3 s3 => ⟨i, k, rfl, rfl, q H3 (s2.trans s3)⟩
theorem ev_and1 (ha : EvV ta σ H (.int i)) (hb : EvV tb σ H (.int 1)) : EvV (tOp rAnd1 ta tb) σ H (.int (i % 2)) := fun H1 Q s1 q =>
  ha H1 _ s1 fun H2 s2 => hb H2 _ (s1.trans s2) fun H3 s3 => ⟨i, rfl, rfl, q H3 (s2.trans s3)⟩
/-- a while by an invariant with a measure -/
theorem whileI (Pv : Nat → L2.St → Hp → Prop) (n0 : Nat) (h0 : Pv n0 σ H)
    (hs : ∀ n σ' H', Pv n σ' H' → ∃ c, EvB tt σ' H' c ∧ (c = true → ∀ H1, Same H' H1 → tw { nx := fun σ2 H2 => ∃ m, m < n ∧ Pv m σ2 H2, rt := D.rt, bk := u D, ct := fun σ2 H2 => ∃ m, m < n ∧ Pv m σ2 H2 } σ' H1) ∧ (c = false → ∀ H1, Same H' H1 → u D σ' H1)) : tSeq (tWhile tt tw) u D σ H := by
  refine ⟨Pv, ⟨n0, h0⟩, fun m σ' H' p => ?_⟩
  obtain ⟨c, hb, ht, hf⟩ := hs m σ' H' p
  refine hb H' _ (Same.refl _) fun H1 s1 => ?_
  cases c with
  | false => exact iteF (hf rfl H1 s1)
  | true => exact iteT ⟨fun σ2 H2 => ∃ k, k < m ∧ Pv k σ2 H2, fun _ _ h => h, ht rfl H1 s1⟩
theorem whileL (Pv : Nat → L2.St → Hp → Prop) (n0 : Nat) (h0 : Pv n0 σ H)
    (hs : ∀ n σ' H', Pv n σ' H' → ∃ c, EvB tt σ' H' c ∧ (c = true → ∀ H1, Same H' H1 → tw { nx := fun σ2 H2 => ∃ m, m < n ∧ Pv m σ2 H2, rt := D.rt, bk := D.nx, ct := fun σ2 H2 => ∃ m, m < n ∧ Pv m σ2 H2 } σ' H1) ∧ (c = false → ∀ H1, Same H' H1 → D.nx σ' H1)) : tWhile tt tw D σ H :=
  whileI (u := fun D => D.nx) Pv n0 h0 hs
theorem augI {j : Nat} {v : Int} (hi : σ[j]? = some (some (.int v))) (h : EvV te σ H (.int i)) (k : ∀ H1, Same H H1 → u D (σ.set j (some (.int (v + i)))) H1) : tSeq (tAug j te (ipI fun i j => i + j)) u D σ H := by
  refine ⟨_, hi, h H _ (Same.refl H) fun H1 s1 => ⟨_, _, rfl, rfl, k H1 s1⟩⟩
end
/-! ### a comprehension over a range from its end -/
theorem lc_dpV {K : PySem.W.Frag} {m : Nat} {te0 : TE} {j : Nat} {σ : L2.St} {H : Hp} {Q : VK} {te : TE} (g : Nat → PyData) (hi : ∀ R : VK, R (.int (m : Int)) H → te0 σ H R) (hz : m ≤ 100000)
    (he : ∀ n H' D (R : VK), n < m → H D = none → (∃ acc, H' D = some (.lst acc)) → Same H H' → (∀ y H'', Same H' H'' → Dp K (erase D H'') y (g n) → R y H'') → te ((wipe σ [j]).set j (some (.int ((m - 1 - n : Nat) : Int)))) H' R)
    (hd : ∀ D acc H', H D = none → Same H H' → H' D = some (.lst acc) → DpAll K H' acc ((List.range m).map g) → Q (.ref D) H') :
    tLc (iRevR (tRg1 te0)) (gName j) tYes te [j] σ H Q := by
  have hw : ∀ x, wipe ((wipe σ [j]).set j (some x)) [j] = wipe σ [j] := fun x => by
    show ((σ.set j none).set j (some x)).set j none = σ.set j none
    rw [List.set_set, List.set_set]
  show te0 σ H _
  refine hi _ ⟨(m : Int), rfl, by omega, by omega, by omega, by omega, ?_⟩
  rw [Int.sub_zero, Int.toNat_natCast]
  intro D hD
  refine ⟨fun i n H' => n = m - i ∧ i ≤ m ∧ ∃ acc, H' D = some (.lst acc) ∧ Same H (erase D H') ∧ acc.length ≤ i ∧ DpAll K (erase D H') acc ((List.range i).map g), ⟨m, rfl, Nat.zero_le _, [], upd_same, same_erase (same_upd hD) hD, Nat.le_refl _, .nil⟩, ?_⟩
  rintro i n H' ⟨rfl, hi, acc, e, sm, hl, dp⟩
  by_cases hlt : i < m
  · refine .inr ⟨hlt, fun H2 => i + 1 ≤ m ∧ ∃ acc, H2 D = some (.lst acc) ∧ Same H (erase D H2) ∧ acc.length ≤ i + 1 ∧ DpAll K (erase D H2) acc ((List.range (i + 1)).map g), fun H2 h2 => ⟨m - (i + 1), by omega, rfl, h2⟩, fun x H2 y => ?_⟩
    obtain ⟨e1, e2⟩ := y
    subst e1 e2
    have ev : 0 + (m : Int) - 1 + (i : Nat) * (-1) = ((m - 1 - i : Nat) : Int) := by omega
    rw [ev]
    show wipe ((wipe σ [j]).set j (some (.int ((m - 1 - i : Nat) : Int)))) [j] = wipe σ [j] ∧ tYes _ _ _
    refine ⟨hw _, ?_⟩
    unfold tYes
    simp only [if_true]
    refine he i _ D _ hlt hD ⟨acc, e⟩ (same_noerase sm) fun y H3 s3 hy => ?_
    have e3 := s3 D _ e
    refine ⟨acc, e3, Nat.lt_of_le_of_lt hl (Nat.lt_of_lt_of_le (show i < 100001 by omega) (by decide)), hlt, acc ++ [y], upd_same, ?_, ?_, ?_⟩
    · rw [erase_upd]
      exact sm.trans (erase_mono s3)
    · rw [List.length_append]
      exact Nat.succ_le_succ hl
    · rw [erase_upd, List.range_succ, List.map_append]
      exact dpa_app (dpa_same (erase_mono s3) _ _ dp) (.cons hy .nil)
  · have em : i = m := by omega
    subst em
    exact .inl ⟨Nat.le_refl _, hd D acc H' hD (same_noerase sm) e (dpa_same (erase_same D H') _ _ dp)⟩
theorem evo_lcV {K : PySem.W.Frag} {te tb : TE} {σ : L2.St} {H : Hp} {j m : Nat} (g : Nat → PyData) (hs : EvV te σ H (.int (m : Int))) (hz : m ≤ 100000)
    (he : ∀ n H1 D (R : VK), n < m → Same H H1 → (∃ acc, H1 D = some (.lst acc)) → Same H (erase D H1) → (∀ y H2, Same H1 H2 → Dp K (erase D H2) y (g n) → R y H2) → tb ((wipe σ [j]).set j (some (.int ((m - 1 - n : Nat) : Int)))) H1 R) :
    EvO K (tLc (iRevR (tRg1 te)) (gName j) tYes tb [j]) σ H ((List.range m).map g) := fun H1 Q s1 k => by
  show te σ H1 fun x H1 => tLc (iRevR (tRg1 (tC x))) (gName j) tYes tb [j] σ H1 Q
  refine hs H1 _ s1 fun H2 s2 => ?_
  refine lc_dpV (K := K) (m := m) g (fun R h => h) hz (fun n H3 D R e3 hD hacc s3 k3 => he n H3 D R e3 ((s1.trans s2).trans s3) hacc ((s1.trans s2).trans (same_erase s3 hD)) k3) (fun D acc H3 hD s3 e3 d3 => ?_)
  exact k D acc H3 (s2.free hD) (s2.trans s3) e3 d3
/-! ### a comprehension over a list, whoever holds it -/
theorem evo_lcL {K : PySem.W.Frag} {te tb : TE} {tt : TT} {σ : L2.St} {H : Hp} {ds : List PyData} {j : Nat} (w : PyData) (keep : PyData → Bool) (g : PyData → PyData) (hs : EvD K te σ H (.list ds)) (hz : ds.length ≤ 100000)
    (ht : ∀ x d H1 (R : Bool → Hp → Prop), d ∈ ds → Same H H1 → Dp K H1 x d → (∀ H2, Same H1 H2 → R (keep d) H2) → tt ((wipe σ [j]).set j (some x)) H1 R)
    (he : ∀ x d H1 D (R : VK), d ∈ ds → keep d = true → Same H H1 → Dp K (erase D H1) x d → (∃ acc, H1 D = some (.lst acc)) → Same H (erase D H1) → (∀ y H2, Same H1 H2 → Dp K (erase D H2) y (g d) → R y H2) → tb ((wipe σ [j]).set j (some x)) H1 R) :
    EvO K (tLc (iList K te) (gName j) tt tb [j]) σ H ((ds.filter keep).map g) := fun H1 Q s1 k => by
  show te σ H1 fun x H1 => tLc (iList K (tC x)) (gName j) tt tb [j] σ H1 Q
  refine hs H1 _ s1 fun v H2 s2 d2 => ?_
  obtain ⟨p, vs, rfl, hq, d3⟩ : ∃ p vs, v = .ref p ∧ SqL K H2 p vs ∧ DpAll K H2 vs ds := by
    cases d2 with
    | lst hq d2 => exact ⟨_, _, rfl, hq, d2⟩
  have hl := dpa_len d3
  refine lc_dpL (fun n => keep (ds.getD n w)) (fun n => g (ds.getD n w)) (fun R h => h) hq (by omega) (fun n x H3 R e3 s3 k3 => ?_) (fun n x H3 D R e3 kp hD hacc s3 k3 => ?_) (fun D acc H3 hD s3 e3 d4 => ?_)
  · obtain ⟨d, ed, hx⟩ := dpa_get2 d3 e3
    rw [getD_of ed] at k3
    exact ht x d H3 R (List.mem_of_getElem? ed) ((s1.trans s2).trans s3) (dp_same s3 _ _ hx) k3
  · obtain ⟨d, ed, hx⟩ := dpa_get2 d3 e3
    rw [getD_of ed] at k3 kp
    exact he x d H3 D R (List.mem_of_getElem? ed) kp ((s1.trans s2).trans s3) (dp_same (same_erase s3 hD) _ _ hx) hacc ((s1.trans s2).trans (same_erase s3 hD)) k3
  · refine k D acc H3 (s2.free hD) (s2.trans s3) e3 ?_
    have e0 := range_get ds (fun d => d) w
    rw [List.map_id'] at e0
    have ez : ((List.range vs.length).filter fun n => keep (ds.getD n w)).map (fun n => g (ds.getD n w)) = (ds.filter keep).map g := by
      have e1 : (fun n => keep (ds.getD n w)) = keep ∘ fun n => ds.getD n w := rfl
      have e2 : (fun n => g (ds.getD n w)) = g ∘ fun n => ds.getD n w := rfl
      rw [hl, e1, e2, ← List.map_map, ← List.filter_map, e0]
    rw [ez] at d4
    exact d4
theorem ev_chain0 {ta tb tc : TE} {σ : L2.St} {H : Hp} {f f' : Int → Int → Bool} {n m q : Int} (ha : EvV ta σ H (.int n)) (hb : EvV tb σ H (.int m)) (hc : EvV tc σ H (.int q)) : EvV (tChain (rI0 fun i j => .bl (f i j)) (rI0 fun i j => .bl (f' i j)) ta tb tc) σ H (.bl (f n m && f' m q)) :=
  ev_chain (C := fun _ _ => True) (C' := fun _ _ => True) ha hb hc
/-! ### int(flag), [a, b][int(flag)], an if that stores data -/
def rInt1 : List V → Hp → VK → Prop := fun xs H Q => (∃ i, xs = [.int i] ∧ Q (.int i) H) ∨ ∃ k, xs = [.bl k] ∧ Q (.int (if k then 1 else 0)) H
theorem call_intP {X : Cx} : CallR X (.type "int") rInt1 := call_int1
section
variable {K : PySem.W.Frag} {te ta tb : TE} {tt : TT} {σ : L2.St} {H : Hp} {u : TS} {D : Ends} {i : Nat} {b c : Bool} {d : PyData} {x0 : V} {n m : Int} {ds : List PyData}
theorem ev_intB (h : EvV te σ H (.bl b)) : EvV (tCB rInt1 (tCons te tNil)) σ H (.int (bit b)) := fun H1 Q s1 k => h H1 _ s1 fun H2 s2 => .inr ⟨b, rfl, k H2 s2⟩
theorem ev_pick (h : EvV te σ H (.int (bit b))) : EvV (tOp (rIxL K) (tLst (tCons (tC (.int n)) (tCons (tC (.int m)) tNil))) te) σ H (.int (if b then m else n)) :=
  EvD.v_int (evd_ix (ds := [.int n, .int m]) (EvK.dat (EvO.k (evo_lst (eds_cons evd_int (eds_cons evd_int eds_nil)) (by show 2 ≤ 100000; omega)))) h (by cases b <;> decide) (by cases b <;> rfl))
theorem if_asgD (h : EvB tt σ H b) (ha : b = true → EvD K te σ H d) (hx : σ[i]? = some (some x0)) (k : ∀ y H1, Same H H1 → (b = true → Dp K H1 y d) → (b = false → y = x0) → u D (σ.set i (some y)) H1) : tSeq (tIfS tt (tAsg te (gName i)) tNext) u D σ H :=
  h H _ (Same.refl H) fun H1 s1 => by
    cases b with
    | true => exact iteT (asgLastD ((ha rfl).mono s1) fun y H2 s2 d2 => k y H2 (s1.trans s2) (fun _ => d2) (fun z => nomatch z))
    | false =>
      have e : σ.set i (some x0) = σ := by
        obtain ⟨hi, e⟩ := List.getElem?_eq_some_iff.mp hx
        rw [← e, List.set_getElem_self]
      have := k x0 H1 s1 (fun z => nomatch z) (fun _ => rfl)
      rw [e] at this
      exact iteF this
end
/-! ### == of lists of ints, != of flags -/
theorem eqvL (ns ms : List Int) : PyData.eqv (.list (ns.map PyData.int)) (.list (ms.map PyData.int)) = decide (ns = ms) := by
  rw [PyData.eqv]
  exact PySem.W.ked_eqvAll ns ms
section
variable {K : PySem.W.Frag} {te ta tb : TE} {tt : TT} {tw : TS} {σ : L2.St} {H : Hp} {u : TS} {D : Ends} {j : Nat} {a b : Bool} {ns ms : List Int}
theorem listSh (l : List Int) : SeqAt.shaped (.list (l.map PyData.int)) = true := (show ShN 1 (.list (l.map PyData.int)) from sh_lst sh_ints).ok (by omega)
theorem ev_eqL (ha : EvD K ta σ H (.list (ns.map PyData.int))) (hb : EvD K tb σ H (.list (ms.map PyData.int))) : EvV (tOp (rEqD K) ta tb) σ H (.bl (decide (ns = ms))) := EvV.is (ev_eq ha hb (listSh ns) (listSh ms)) (by rw [eqvL])
theorem ev_neL (ha : EvD K ta σ H (.list (ns.map PyData.int))) (hb : EvD K tb σ H (.list (ms.map PyData.int))) : EvV (tOp (rNeD K) ta tb) σ H (.bl (!decide (ns = ms))) := EvV.is (ev_ne ha hb (listSh ns) (listSh ms)) (by rw [eqvL])
theorem ev_neB (ha : EvV ta σ H (.bl a)) (hb : EvV tb σ H (.bl b)) : EvV (tOp rNe ta tb) σ H (.bl (!decide (a = b))) := fun H1 Q s1 k =>
  ha H1 _ s1 fun H2 s2 => hb H2 _ (s1.trans s2) fun H3 s3 => ⟨rfl, by
    have e : decide (V.bl a = V.bl b) = decide (a = b) := by cases a <;> cases b <;> rfl
    rw [e]
    exact k H3 (s2.trans s3)⟩
theorem ifYes (h : EvB tt σ H true) (k : ∀ H1, Same H H1 → tw { D with nx := u D } σ H1) : tSeq (tIfS tt tw tNext) u D σ H := h H _ (Same.refl H) fun H1 s => iteT (k H1 s)
theorem ifL (h : EvB tt σ H b) (hy : b = true → ∀ H1, Same H H1 → tw D σ H1) (hn : b = false → ∀ H1, Same H H1 → D.nx σ H1) : tIfS tt tw tNext D σ H := h H _ (Same.refl H) fun H1 s => by
  cases b with
  | true => exact iteT (hy rfl H1 s)
  | false => exact iteF (hn rfl H1 s)
/-- a for over a written tuple of ints, whose body may change lists -/
theorem forTI (he : EvD K te σ H (.tuple (ns.map PyData.int))) (k : ∀ p H1, Same H H1 → SqT K H1 p (ns.map V.int) → ∃ Pv : Nat → L2.St → Hp → Prop, Pv 0 σ H1 ∧ (∀ i σ' H', Pv i σ' H' → SqT K H' p (ns.map V.int)) ∧
    (∀ i n σ' H', ns[i]? = some n → Pv i σ' H' → tw { nx := Pv (i + 1), rt := D.rt, bk := u D, ct := Pv (i + 1) } (σ'.set j (some (.int n))) H') ∧ ∀ σ' H', Pv ns.length σ' H' → u D σ' H') : tSeq (tFor (iTup K te) (gName j) tw) u D σ H :=
  he H _ (Same.refl H) fun v H1 s1 dv => by
    obtain ⟨p, rfl, hq⟩ : ∃ p, v = .ref p ∧ SqT K H1 p (ns.map V.int) := by
      cases dv with
      | tup hs ha =>
        rw [dpa_ints_eq ha] at hs
        exact ⟨_, rfl, hs⟩
    obtain ⟨Pv, h0, hl, hs, hd⟩ := k p H1 s1 hq
    refine ⟨p, rfl, ⟨_, hq⟩, for_tup (K := K) (D := { D with nx := u D }) Pv h0 (fun i σ' H' _ q => hl i σ' H' q) (fun i x σ' H' e q => ?_) (fun σ' H' q => hd σ' H' (by rw [List.length_map] at q; exact q))⟩
    obtain ⟨n, en, rfl⟩ := get_int e
    exact hs i n σ' H' en q
end
/-! ### what stays where a list changes -/
theorem sqt_upd {K : PySem.W.Frag} {H : Hp} {p q : Addr} {o : HO} {xs ys : List V} (h : SqT K H p xs) (hq : H q = some (.lst ys)) : SqT K (upd H q o) p xs := by
  rcases h with (h | ⟨z, h⟩) | h
  · exact .inl (.inl (by rw [upd_ne (fun e => by rw [e, hq] at h; cases h)]; exact h))
  · exact .inl (.inr ⟨z, by rw [upd_ne (fun e => by rw [e, hq] at h; cases h)]; exact h⟩)
  · exact .inr h
/-! ### slices of lists, whatever their ends -/
theorem cut_drop2 {xs : List V} {s : Int} (h0 : 0 ≤ s) : cutV xs (some s) none = xs.drop s.toNat := by
  unfold cutV
  obtain ⟨n, rfl⟩ := Int.eq_ofNat_of_zero_le h0
  rw [HT.sIx_none, HT.sIx_nat, Int.toNat_natCast]
  by_cases h : n ≤ xs.length
  · rw [Nat.min_eq_left h]
    exact List.take_of_length_le (by rw [List.length_drop]; exact Nat.le_refl _)
  · rw [Nat.min_eq_right (by omega), List.drop_eq_nil_of_le (by omega), List.drop_eq_nil_of_le (by omega)]
    exact List.take_nil
theorem cut_mid {xs : List V} {s t : Int} (h0 : 0 ≤ s) (h1 : s ≤ t) : cutV xs (some s) (some t) = (xs.take t.toNat).drop s.toNat := by
  unfold cutV
  obtain ⟨n, rfl⟩ := Int.eq_ofNat_of_zero_le h0
  obtain ⟨m, rfl⟩ := Int.eq_ofNat_of_zero_le (show 0 ≤ t by omega)
  rw [HT.sIx_nat, HT.sIx_nat, Int.toNat_natCast, Int.toNat_natCast, ← List.drop_take]
  by_cases h : n ≤ xs.length
  · rw [Nat.min_eq_left h]
    by_cases k : m ≤ xs.length
    · rw [Nat.min_eq_left k]
    · rw [Nat.min_eq_right (by omega), List.take_length, List.take_of_length_le (by omega)]
  · rw [Nat.min_eq_right (by omega), List.drop_eq_nil_of_le (by rw [List.length_take]; omega), List.drop_eq_nil_of_le (by rw [List.length_take]; omega)]
section
variable {K : PySem.W.Frag} {te ta tb : TE} {σ : L2.St} {H : Hp} {ds : List PyData} {n m : Int}
theorem evo_dropL2 (h : EvD K te σ H (.list ds)) (hn : EvV ta σ H (.int n)) (h0 : 0 ≤ n) : EvO K (tSl (rSlL K) te (tPart ta) tNoPart) σ H (ds.drop n.toNat) := fun H1 Q s1 k =>
  h H1 _ s1 fun v H2 s2 d2 => hn H2 _ (s1.trans s2) fun H3 s3 => ⟨n, rfl, by
    cases d2 with
    | lst hs ha => exact ⟨_, _, rfl, s3.seq hs, fun p np => k p _ _ ((s2.trans s3).free np) ((s2.trans s3).trans (same_upd np)) upd_same (by
        rw [cut_drop2 h0]
        exact dpa_drop (dpa_same (s3.trans (same_upd np)) _ _ ha))⟩⟩
theorem evo_sl2 (h : EvD K te σ H (.list ds)) (hn : EvV ta σ H (.int n)) (hm : EvV tb σ H (.int m)) (h0 : 0 ≤ n) (h1 : n ≤ m) : EvO K (tSl (rSlL K) te (tPart ta) (tPart tb)) σ H ((ds.take m.toNat).drop n.toNat) := fun H1 Q s1 k =>
  h H1 _ s1 fun v H2 s2 d2 => hn H2 _ (s1.trans s2) fun H3 s3 => ⟨n, rfl, hm H3 _ ((s1.trans s2).trans s3) fun H4 s4 => ⟨m, rfl, by
    have s24 := (s2.trans s3).trans s4
    cases d2 with
    | lst hs ha => exact ⟨_, _, rfl, (s3.trans s4).seq hs, fun p np => k p _ _ (s24.free np) (s24.trans (same_upd np)) upd_same (by
        rw [cut_mid h0 h1]
        exact dpa_drop (dpa_take (dpa_same ((s3.trans s4).trans (same_upd np)) _ _ ha)))⟩⟩⟩
end
/-! ### promises: a new list of ints, or an error -/
def PSpXO (K : PySem.W.Frag) (n : Nat) (f : List PyData → Except Err (List Int)) : Sp := fun vs H Q E =>
  ∃ ds, DpAll K H vs ds ∧ ds.length = n ∧ (∀ r, f ds = .ok r → ∀ p H', H p = none → Same H H' → H' p = some (.lst (r.map V.int)) → Q (.ref p) H') ∧ (∀ e, f ds = .error e → ∀ H', Same H H' → E (.ref (errC K e)) none H')
section
variable {K : PySem.W.Frag} {tas : TA} {σ : L2.St} {H : Hp} {ds : List PyData} {r : List Int}
theorem evo_XO {n : Nat} {f : List PyData → Except Err (List Int)} (h : EvDs K tas σ H ds) (hl : ds.length = n) (hf : f ds = .ok r) : EvO K (tCall (PSpXO K n f) [] E0 tas) σ H (r.map PyData.int) :=
  evo_call h fun vs H1 Q s1 d1 k => ⟨ds, d1, hl, fun r' hr p H2 np s2 e2 => by
    rw [hf] at hr
    cases hr
    exact k p _ H2 np s2 e2 (dpa_ints _), fun e he => by rw [hf] at he; cases he⟩
theorem len1O {n : Nat} {g : List PyData → Except Err (List Int)} {vs : List V} {Q : VK} {E : XK} (h : PSpXO K n g vs H Q E) : vs.length = n := by
  obtain ⟨ds, hd, hl, _⟩ := h
  rw [dpa_len hd, hl]
end
/-! ### a list at its own place -/
section
variable {K : PySem.W.Frag} {te : TE} {σ : L2.St} {H : Hp} {u : TS} {D : Ends} {i : Nat} {v : V} {p : Addr} {xs : List V}
/-- xs.append(e) -/
theorem appV (hi : σ[i]? = some (some (.ref p))) (hp : H p = some (.lst xs)) (hl : xs.length ≤ 100000) (h : EvV te σ H v) (k : ∀ H1, Same H H1 → u D σ (upd H1 p (.lst (xs ++ [v])))) : tSeq (tDrop (tBM K "list" rAppend (tVar i) (tCons te tNil))) u D σ H :=
  ⟨_, hi, .inl ⟨rfl, _, .inl (.inl hp)⟩, h H _ (Same.refl H) fun H1 s1 => ⟨p, xs, v, rfl, rfl, s1 _ _ hp, Nat.lt_of_le_of_lt hl (by decide), k H1 s1⟩⟩
theorem appVL (hi : σ[i]? = some (some (.ref p))) (hp : H p = some (.lst xs)) (hl : xs.length ≤ 100000) (h : EvV te σ H v) (k : ∀ H1, Same H H1 → D.nx σ (upd H1 p (.lst (xs ++ [v])))) : tDrop (tBM K "list" rAppend (tVar i) (tCons te tNil)) D σ H :=
  ⟨_, hi, .inl ⟨rfl, _, .inl (.inl hp)⟩, h H _ (Same.refl H) fun H1 s1 => ⟨p, xs, v, rfl, rfl, s1 _ _ hp, Nat.lt_of_le_of_lt hl (by decide), k H1 s1⟩⟩
end
theorem retO {K : PySem.W.Frag} {te : TE} {σ : L2.St} {H : Hp} {D : Ends} {ds : List PyData} (h : EvO K te σ H ds) (k : ∀ p vs H1, H p = none → Same H H1 → H1 p = some (.lst vs) → DpAll K H1 vs ds → D.rt (.ref p) H1) : tRet te D σ H := h H _ (Same.refl H) fun p vs H1 np s e d => k p vs H1 np s e d
theorem dp_list {K : PySem.W.Frag} {H : Hp} {p : Addr} {ns : List Int} (h : H p = some (.lst (ns.map V.int))) : Dp K H (.ref p) (.list (ns.map PyData.int)) := .lst (.inl (.inl h)) (dpa_ints ns)
end Pl

namespace Pl
open PySem PySem.Spec PyProof.Rows L2
/-! ### the numbers of the program's figures -/
/-- the least k for which no piece of 2 ^ k is wider -/
def WideK (s : S3) (k : Nat) : Prop := s.t ≤ s.w * 2 ^ k ∧ ∀ j, j < k → s.w * 2 ^ j < s.t
theorem wideK_le {s : S3} {n k : Nat} (h : s.Ok n) (hk : WideK s k) : k ≤ n := by
  rcases Nat.lt_or_ge n k with z | z
  · have := hk.2 n z
    have m := Int.mul_le_mul_of_nonneg_right h.w1 (show (0 : Int) ≤ 2 ^ n by have := pow2_pos n; omega)
    have := h.tn
    omega
  · exact z
theorem wideK_few {s : S3} {k : Nat} (h : s.Good) (hk : WideK s k) : fewK s = if fitsK s k then k else k + 1 := by
  obtain ⟨a, b⟩ := fewK_ok h
  have ge : ∀ j, fitsK s j = true → k ≤ j := fun j hj => by
    rcases Nat.lt_or_ge j k with z | z
    · have := hk.2 j z
      have := wide_fits h hj
      omega
    · exact z
  cases e : fitsK s k with
  | true =>
    rw [if_pos rfl]
    exact Nat.le_antisymm (b k e) (ge _ a)
  | false =>
    rw [if_neg Bool.false_ne_true]
    have f : fitsK s (k + 1) = true := fits_wide h (by rw [Int.pow_succ, ← Int.mul_assoc]; have := hk.1; omega)
    have l1 := b _ f
    have l2 := ge _ a
    have ne : fewK s ≠ k := fun z => by
      rw [z, e] at a
      cases a
    omega
/-- the piece that is tried lies in the numbers from 0 to 1 -/
theorem wideK_room {s : S3} {k : Nat} (h : s.Good) (hk : s.t ≤ s.w * 2 ^ k) : firstK s k + 1 ≤ 2 ^ k := by
  have t0 := h.t0
  have p := pow2_pos k
  have m := Int.mul_le_mul_of_nonneg_right h.lw (show (0 : Int) ≤ 2 ^ k by omega)
  rw [Int.add_mul] at m
  have : firstK s k ≤ 2 ^ k - 1 := firstK_le h (by
    rw [Int.sub_mul, Int.mul_comm (2 ^ k)]
    omega)
  omega
theorem fits_iff {s : S3} {k : Nat} (h : s.Good) : withinB ⟨firstK s k, 1, 2 ^ k⟩ s = fitsK s k := by
  rw [Bool.eq_iff_iff]
  constructor
  · intro z
    exact decide_eq_true (p := (firstK s k + 1) * s.t ≤ (s.l + s.w) * 2 ^ k) (within_iff.mp z).2
  · intro z
    exact within_iff.mpr ⟨firstK_ge h k, of_decide_eq_true (p := (firstK s k + 1) * s.t ≤ (s.l + s.w) * 2 ^ k) z⟩
theorem bitsOf_map : ∀ (m : Nat) (x : Int), bitsOf m x = (List.range m).map fun (i : Nat) => x / 2 ^ (m - 1 - i) % 2
  | 0, _ => rfl
  | m + 1, x => by
    show bitsOf m (x / 2) ++ [x % 2] = _
    rw [List.range_succ, List.map_append, bitsOf_map m]
    congr 1
    · refine List.map_congr_left fun i hi => ?_
      have hi := List.mem_range.mp hi
      have e : m + 1 - 1 - i = (m - 1 - i) + 1 := by omega
      rw [e, Int.pow_succ, Int.mul_comm (2 ^ (m - 1 - i)) 2, Int.ediv_ediv_of_nonneg (by decide)]
    · show [x % 2] = [x / 2 ^ (m + 1 - 1 - m) % 2]
      rw [show m + 1 - 1 - m = 0 by omega]
      show [x % 2] = [x / 1 % 2]
      rw [Int.ediv_one]
theorem one_piece {x : Int} {k : Nat} (h0 : 0 ≤ x) (h1 : x + 1 ≤ 2 ^ k) : (⟨x, 1, 2 ^ k⟩ : S3).Ok (k + 1) := by
  refine ⟨h0, Int.le_refl 1, h1, ?_⟩
  show (2 : Int) ^ k < 2 ^ (k + 1)
  rw [Int.pow_succ]
  have := pow2_pos k
  omega
theorem figsIn_zero {s : S3} (h : s.Good) : 0 ≤ firstK s (fewK s) := firstK_pos h _
end Pl

namespace Pl
open PySem PySem.Spec PyProof.Rows L2
theorem Text.signs {n : Nat} {ss : List Int} (h : Text n ss) : Signs n ss := fun x hx => by have := h.2 x hx; omega
theorem whole_good : whole3.Good := whole_ok.good
theorem textS_good {cs : List Int} {g : Int} {ss : List Int} (p : Plan cs g) (h : Text cs.length ss) : (textS cs g ss).Good := (textS_ok p h).good
theorem take_of_begins {α : Type} {a b r : List α} (h : a = b ++ r) : a.take b.length = b := by rw [h, List.take_left']; rfl
theorem begins_of_take {α : Type} {a b : List α} (h : a.take b.length = b) : ∃ r, a = b ++ r := ⟨a.drop b.length, by
  have e := List.take_append_drop b.length a
  rw [h] at e
  exact e.symm⟩
section
variable {cs : List Int} {g : Int} {A B : List Int}
theorem unlike_not (pl : Plan cs g) (ta : Text cs.length A) (tb : Text cs.length B) (hl : A.length = B.length) (hne : A ≠ B) : (figsIn (textS cs g A)).take (figsIn (textS cs g B)).length ≠ figsIn (textS cs g B) := fun z => by
  obtain ⟨r, e⟩ := begins_of_take z
  have br : Bits r := fun x hx => figsIn_bits (textS cs g A) x (by rw [e]; exact List.mem_append_right _ hx)
  have wa := figsIn_within (textS_good pl ta)
  rw [e] at wa
  exact figs_unlike whole_good pl tb.signs ta.signs hl.symm hne.symm (figsIn_bits _) br (figsIn_within (textS_good pl tb)) wa
theorem unlike_lt (pl : Plan cs g) (ta : Text cs.length A) (tb : Text cs.length B) (hl : A.length = B.length) (hne : A ≠ B) :
    PySem.W.dataLt (.list ((figsIn (textS cs g A)).map PyData.int)) (.list ((figsIn (textS cs g B)).map PyData.int)) = PySem.W.dataLt (.list (A.map PyData.int)) (.list (B.map PyData.int)) := by
  have wa := figsIn_within (textS_good pl ta)
  have wb := figsIn_within (textS_good pl tb)
  have ba := figsIn_bits (textS cs g A)
  have bb := figsIn_bits (textS cs g B)
  rcases part3 A B with ⟨r, e⟩ | ⟨r, e⟩ | ⟨p, x, y, r, q, e1, e2, hxy⟩
  · have : r = [] := List.eq_nil_of_length_eq_zero (by rw [e, List.length_append] at hl; omega)
    subst this
    exact absurd (by rw [e, List.append_nil]) hne
  · have : r = [] := List.eq_nil_of_length_eq_zero (by rw [e, List.length_append] at hl; omega)
    subst this
    exact absurd (by rw [e, List.append_nil]) hne
  · generalize figsIn (textS cs g A) = fa at wa ba
    generalize figsIn (textS cs g B) = fb at wb bb
    subst e1 e2
    rw [ltList_part hxy]
    rcases Int.lt_or_gt_of_ne hxy with z | z
    · obtain ⟨p', r', q', rfl, rfl⟩ := figs_order whole_good pl ta.signs tb.signs z ba bb wa wb
      rw [ltList_part (by decide), decide_eq_true z]
      rfl
    · obtain ⟨p', r', q', rfl, rfl⟩ := figs_order whole_good pl tb.signs ta.signs z bb ba wb wa
      rw [ltList_part (by decide), decide_eq_false (show ¬ x < y by omega)]
      rfl
theorem text_within (pl : Plan cs g) (ta : Text cs.length A) (k : Nat) : withinB (textS cs g A) (textS cs g (A.take k)) = true := by
  have e := List.take_append_drop k A
  have h1 := (ta.take k)
  obtain ⟨pa, la⟩ := after_ok pl h1.signs
  have hs : Signs (after cs g (A.take k)).length (A.drop k) := by
    rw [la]
    exact fun x hx => ta.signs x (List.mem_of_mem_drop hx)
  have w := str_within (textS_good pl h1) pa hs
  have e2 : strOf (textS cs g (A.take k)) (after cs g (A.take k)) g (A.drop k) = textS cs g A := by
    unfold textS
    rw [← str_app, e]
  rw [e2] at w
  exact w
theorem sure_first (pl : Plan cs g) (ta : Text cs.length A) (k : Nat) : (figsIn (textS cs g A)).take (sureOf (textS cs g (A.take k))).length = sureOf (textS cs g (A.take k)) := by
  obtain ⟨r, e⟩ := sure_begins (textS_good pl (ta.take k)) (textS_good pl ta) (text_within pl ta k) (figsIn_bits _) (figsIn_within (textS_good pl ta))
  exact take_of_begins e
end
theorem ifNoC {tt : TT} {w u : TS} {D : Ends} {σ : L2.St} {H : Hp} (h : EvB tt σ H false) (k : ∀ H1, Same H H1 → u D σ H1) : Evl.tCut (tIfS tt w tNext) u D σ H :=
  cut_if (fun σ' H' => σ' = σ ∧ Same H H') h (fun z => nomatch z) (fun _ H1 s => ⟨rfl, s⟩) fun σ' H' ⟨e, s⟩ => by
    subst e
    exact k H' s
end Pl

namespace Pl
open PySem PySem.Spec PyProof.Rows L2
/-! ### methods and makings that may raise -/
abbrev FnM (K : PySem.W.Frag) (x q : Str) (st : Stmt) (f : Addr) (fd : FuncData) : Prop := FunD K x q (defArgs st) (defBody st) (defScope st) [] [] f fd
structure MCal (P : Program) (w : World) (K : PySem.W.Frag) (mg : Str → Option Value) (base : Heap) (CX : CXT) (C : Addr) (k : Nat) (m : Str) (ps : List Str) (sp : Sp) : Prop where
  ex : ∃ (f : Addr) (fd : FuncData), FnOk P w K mg base CX k f fd ps sp ∧ Meth K C m f ∧ Binds K fd ps []
structure ICal (P : Program) (w : World) (K : PySem.W.Frag) (mg : Str → Option Value) (base : Heap) (CX : CXT) (C : Addr) (k : Nat) (ps : List Str) (sp : Sp) : Prop where
  ex : ∃ (f : Addr) (fd : FuncData), FnOk P w K mg base CX k f fd ps sp ∧ Mk K C f ∧ Binds K fd ps []
/-- an own class: plain, none of these names in it -/
structure ClsT (K : PySem.W.Frag) (C : Addr) (fs : List Str) : Prop where
  cl : Cls K C
  na : ∀ f ∈ fs, NoAttr K C f
def tMX (C : Addr) (m : Str) (sp : Sp) (E : L2.St → XK) (ta : TE) (t : TA) : TE := fun σ H Q => ta σ H fun x H1 =>
  ∃ a dx fs, x = .ref a ∧ H1 a = some (.ins C dx fs) ∧ fs.lookup m = none ∧ t σ H1 fun vs H2 => sp (x :: vs) H2 Q (E σ)
def tMkX (C : Addr) (sp : Sp) (E : L2.St → XK) (t : TA) : TE := fun σ H Q => t σ H fun vs H1 =>
  ∀ x dx, H1 x = none → H1 dx = none → dx ≠ x → sp (.ref x :: vs) (upd (upd H1 dx (.own x)) x (.ins C dx [])) (fun v H2 => v = .non ∧ Q (.ref x) H2) (E σ)
theorem pass0At {X : Cx} (σ : L2.St) : PassesAt CX0 X σ E0 := fun _ _ _ _ _ _ h => h.elim
theorem passNAt {X : Cx} (σ : L2.St) : PassesAt (L2N.CX X.prog X.w) X σ E0 := fun _ _ _ _ _ _ h => by
  obtain ⟨_, _, _, _, _, _, _, _, _, _, _, _, z⟩ := h
  exact z.elim
section
variable {X : Cx} {CX : CXT} {k : Nat} {C : Addr} {m x : Str} {ps : List Str} {sp : Sp} {E : L2.St → XK} {e o : Expr} {es : List Expr} {ta : TE} {t : TA} {p pos apos : Pos}
theorem pe_mX {pl : Sem Bool} (cl : Cls X.K C) (M : MCal X.prog X.w X.K X.mg X.base CX C k m ps sp) (hr : Room k X.A) (hx : ∀ σ, PassesAt CX X σ (E σ)) (he : PE X o ta) (ha : PA X (e :: es) t)
    (hst : starEach (e :: es) X.env = (false, eval e X.env) :: starEach es X.env := by rfl) (hpl : (backTo pos (starEach es X.env)).any (·.1) = false := by rfl)
    (ht : eval (.Call (.Attribute o m apos) (e :: es) [] pos) X.env = (do let ov ← eval o X.env; standAt apos.atName; let (f, first) ← holding [ov] (getMethod ov m pl); callWith pos f first (backTo pos (starEach (e :: es) X.env)) (backToKw pos (keywordEach [] X.env))) := by rfl) :
    PE X (.Call (.Attribute o m apos) (e :: es) [] pos) (tMX C m sp E ta t) := by
  obtain ⟨f, fd, F, hm, hb⟩ := M.ex
  refine ⟨fun pins s σ H Q I h => PySem.W.methodCall_KW (pl := pl) (thn (he.run pins s σ H _ I h) fun u s1 ⟨x, H1, I1, rx, a, dx, fs, ex, ea, l, q⟩ => ?_) ht⟩
  subst ex
  cases (show u = Value.ref a from rx)
  refine getmeth_ok I1 ea cl hm l (PySem.W.callWith_K (first := [.ref a]) (h₀ := X.base) I.ok.mod.kin hm.kp (thn (ha.run pos pins s1 σ H1 _ I1 q) fun us s2 ⟨vs, H2, I2, r, q2⟩ => ⟨I2.kIn, ?_⟩) hst hpl)
  exact run_fnS (us := .ref a :: us) (vs := .ref a :: vs) F hr hb (hx σ) I2 (.cons rfl r) q2
theorem pe_mX0 {pl : Sem Bool} (cl : Cls X.K C) (M : MCal X.prog X.w X.K X.mg X.base CX C k m ps sp) (hr : Room k X.A) (hx : ∀ σ, PassesAt CX X σ (E σ)) (he : PE X o ta)
    (ht : eval (.Call (.Attribute o m apos) [] [] pos) X.env = (do let ov ← eval o X.env; standAt apos.atName; let (f, first) ← holding [ov] (getMethod ov m pl); callWith pos f first (backTo pos (starEach [] X.env)) (backToKw pos (keywordEach [] X.env))) := by rfl) :
    PE X (.Call (.Attribute o m apos) [] [] pos) (tMX C m sp E ta tNil) := by
  obtain ⟨f, fd, F, hm, hb⟩ := M.ex
  refine ⟨fun pins s σ H Q I h => PySem.W.methodCall_KW (pl := pl) (thn (he.run pins s σ H _ I h) fun u s1 ⟨x, H1, I1, rx, a, dx, fs, ex, ea, l, q⟩ => ?_) ht⟩
  subst ex
  cases (show u = Value.ref a from rx)
  exact getmeth_ok I1 ea cl hm l (PySem.W.callWith_K0 (first := [.ref a]) I1.kIn hm.kp (run_fnS (us := [.ref a]) (vs := [.ref a]) F hr hb (hx σ) I1 (.cons rfl .nil) q))
theorem run_mkX {f : Addr} {fd : FuncData} {pins : List (Addr × Obj)} {σ : L2.St} {H : Hp} {s : Shared} {Q : VK} {us : List Value} {vs : List V} (M : Mk X.K C f) (F : FnOk X.prog X.w X.K X.mg X.base CX k f fd ps sp) (hr : Room (k + 1) X.A) (hb : Binds X.K fd ps [])
    (hx : PassesAt CX X σ (E σ)) (I : Inv X pins σ H s) (r : Vals vs us)
    (h : ∀ x dx, H x = none → H dx = none → dx ≠ x → sp (.ref x :: vs) (upd (upd H dx (.own x)) x (.ins C dx [])) (fun v H2 => v = .non ∧ Q (.ref x) H2) (E σ)) : wpAny (model X.prog X.w) X.A (call (.ref C) us) (EP X pins σ Q) X.xe s := by
  have nx := I.hok.fresh (Nat.le_succ s.heap.objs.size)
  have nd := I.hok.fresh (Nat.le_refl s.heap.objs.size)
  have hq := h (s.heap.objs.size + 1) s.heap.objs.size nx nd (Nat.ne_of_lt (Nat.lt_succ_self _))
  have J := Inv.made (C := C) I
  have rv : Vals (V.ref (s.heap.objs.size + 1) :: vs) (Value.ref (s.heap.objs.size + 1) :: us) := .cons rfl r
  have hl : (Value.ref (s.heap.objs.size + 1) :: us).length = ps.length := by rw [← rv.length]; exact F.len _ _ _ _ hq
  have bd := hb _ (Value.ref (s.heap.objs.size + 1) :: us) J.kIn (by rw [List.append_nil]; exact hl)
  rw [List.append_nil] at bd
  refine wpAny_call (make_map (f := f) I.kIn M.makes M.init (beq_iff_eq.mp M.fn) (codeAny_mono (F.run _ X.stack _ _ ⟨Value.ref (s.heap.objs.size + 1) :: us, []⟩ (Value.ref (s.heap.objs.size + 1) :: us) _ _ (E σ) (hr.make C us []) (J.env0.make C us []) bd rv hq) fun z s' hz => ?_))
  cases z with
  | error e => exact hx pins _ _ e s' J hz
  | ok fl =>
    cases fl with
    | ret u =>
      obtain ⟨v, H', I3, r3, ev, q3⟩ := J.after hz
      subst ev
      exact ⟨r3, V.ref (s.heap.objs.size + 1), H', I3, rfl, q3⟩
    | next => exact hz.elim
    | brk => exact hz.elim
    | cont => exact hz.elim
theorem pe_mkX (M : ICal X.prog X.w X.K X.mg X.base CX C k ps sp) (hr : Room (k + 1) X.A) (hm : X.mg x = some (.ref C)) (hx : ∀ σ, PassesAt CX X σ (E σ)) (ha : PA X (e :: es) t) (hg : Gl X x := by rfl)
    (hdb : (x == ("__debug__" : Str)) = false := by decide) (he : starEach (e :: es) X.env = (false, eval e X.env) :: starEach es X.env := by rfl) (hpl : (backTo pos (starEach es X.env)).any (·.1) = false := by rfl) :
    PE X (.Call (.Name x p) (e :: es) [] pos) (tMkX C sp E t) := by
  obtain ⟨f, fd, F, hk, hb⟩ := M.ex
  refine ⟨fun pins s σ H Q I h => ?_⟩
  refine wpAny_Call_Name_kw (ld_glob I hg hm ?_ hdb)
  exact PySem.W.callWith_K (h₀ := X.base) I.ok.mod.kin hk.kp (thn (ha.run pos pins s σ H _ I h) fun us s1 ⟨vs, H1, I1, r, q⟩ => ⟨I1.kIn, run_mkX hk F hr hb (hx σ) I1 r q⟩) he hpl
end
/-! ### a field as a target -/
def gFld (K : PySem.W.Frag) (to : TE) (f : Str) : TG := fun v σ H Q => to σ H fun x H2 => ∃ a C dx fs, x = .ref a ∧ H2 a = some (.ins C dx fs) ∧ Cls K C ∧ NoAttr K C f ∧ fs.length < 1000 ∧ Q σ (upd H2 a (.ins C dx (putF f v fs)))
theorem pg_fld {X : Cx} {K : PySem.W.Frag} {o : Expr} {to : TE} {f : Str} {pos : Pos} (hK : X.K = K) (ho : PE X o to)
    (ha : ∀ v, assign (.Attribute o f pos) X.env v = (do let ov ← holding [v] (eval o X.env); standAt pos.atName; holding [v, ov] (setAttr ov f v); release [v, ov] []) := by intro _; rfl) : PG X (.Attribute o f pos) (gFld K to f) := by
  subst hK
  refine ⟨fun pins s σ H v u Q I r h => ?_⟩
  rw [ha]
  refine wpAny_bind (wpAny_holding (thn (ho.run pins s σ H _ I h) fun ov s1 ⟨x, H1, I1, rx, a, C, dx, fs, ex, ea, c, n, l, q⟩ => ?_))
  subst ex
  cases (show ov = Value.ref a from rx)
  refine wpAny_bind (wpAny_standAt (wpAny_bind (wpAny_holding (setattr_ok I1 ea c n l r fun s3 I3 => ?_))))
  exact wpAny_release ⟨σ, _, I3, q⟩
/-! ### what stays -/
/-- all but M stays -/
def Keep (M : List Addr) (H H' : Hp) : Prop := ∀ b o, b ∉ M → H b = some o → H' b = some o
theorem Keep.refl (M : List Addr) (H : Hp) : Keep M H H := fun _ _ _ e => e
theorem Keep.trans {M : List Addr} {A B C : Hp} (h : Keep M A B) (k : Keep M B C) : Keep M A C := fun b o n e => k b o n (h b o n e)
theorem Same.keep {M : List Addr} {A B : Hp} (h : Same A B) : Keep M A B := fun b o _ e => h b o e
theorem keep_upd {M : List Addr} {H : Hp} {p : Addr} {o : HO} (h : p ∈ M) : Keep M H (upd H p o) := fun b x n e => by
  rw [upd_ne (fun z => n (by rw [z]; exact h))]
  exact e
theorem Keep.mono {M N : List Addr} {A B : Hp} (h : Keep M A B) (hs : ∀ x ∈ M, x ∈ N) : Keep N A B := fun b o n e => h b o (fun z => n (hs b z)) e
theorem Keep.same {M : List Addr} {A B : Hp} (h : Keep M A B) (hM : ∀ x ∈ M, A x = none) : Same A B := fun b o e => h b o (fun z => by rw [hM b z] at e; cases e) e
/-- of what H0 knew, none of M -/
theorem Keep.over {M : List Addr} {A B H0 : Hp} (h : Keep M A B) (s : Same H0 A) (hM : ∀ x ∈ M, H0 x = none) : Same H0 B := fun b o e => h b o (fun z => by rw [hM b z] at e; cases e) (s b o e)
/-- no tuple stands at the places M -/
def NoTup (M : List Addr) (H : Hp) : Prop := ∀ a ∈ M, ∀ o, H a = some o → (∀ xs, o ≠ .tup xs) ∧ ∀ z xs, o ≠ .frz z (.tup xs)
theorem sqt_keep {K : PySem.W.Frag} {M : List Addr} {A B : Hp} {a : Addr} {xs : List V} (h : Keep M A B) (n : NoTup M A) (hs : SqT K A a xs) : SqT K B a xs := by
  rcases hs with (e | ⟨z, e⟩) | e
  · exact .inl (.inl (h a _ (fun q => (n a q _ e).1 xs rfl) e))
  · exact .inl (.inr ⟨z, h a _ (fun q => (n a q _ e).2 z xs rfl) e⟩)
  · exact .inr e
/-- data of tuples and numbers alone -/
inductive TupO : PyData → Prop
  | int (i : Int) : TupO (.int i)
  | tup {ds : List PyData} (h : ∀ d ∈ ds, TupO d) : TupO (.tuple ds)
theorem dpa_imp {K : PySem.W.Frag} {A B : Hp} : ∀ {vs : List V} {ds : List PyData}, (∀ d ∈ ds, ∀ v, Dp K A v d → Dp K B v d) → DpAll K A vs ds → DpAll K B vs ds
  | _, [], _, h => by cases h; exact .nil
  | _, d :: ds, k, h => by
    cases h with
    | cons a b => exact .cons (k d List.mem_cons_self _ a) (dpa_imp (fun e he => k e (List.mem_cons_of_mem _ he)) b)
theorem dp_keep {K : PySem.W.Frag} {M : List Addr} {A B : Hp} (h : Keep M A B) (n : NoTup M A) {d : PyData} (t : TupO d) : ∀ {v : V}, Dp K A v d → Dp K B v d := by
  induction t with
  | int i => exact fun {_} hd => by cases hd; exact .int i
  | tup _ ih =>
    intro v hd
    cases hd with
    | tup hs ha => exact .tup (sqt_keep h n hs) (dpa_imp (fun d hm v => ih d hm) ha)
theorem tupO_ints {ns : List Int} : ∀ d ∈ ns.map PyData.int, TupO d := fun d hd => by
  obtain ⟨i, _, rfl⟩ := List.mem_map.mp hd
  exact .int i
theorem tupO_plan (cs : List Int) (g : Int) : TupO (planD cs g) := .tup fun d hd => by
  simp only [List.mem_cons, List.not_mem_nil, or_false] at hd
  rcases hd with rfl | rfl
  · exact .tup tupO_ints
  · exact .int g
theorem tupO_s3 (s : S3) : TupO s.d := .tup fun d hd => by
  simp only [List.mem_cons, List.not_mem_nil, or_false] at hd
  rcases hd with rfl | rfl | rfl <;> exact .int _
theorem notup_of {M : List Addr} {H : Hp} (h : ∀ a ∈ M, ∃ o, H a = some o ∧ (∀ xs, o ≠ .tup xs) ∧ ∀ z xs, o ≠ .frz z (.tup xs)) : NoTup M H := fun a ha o e => by
  obtain ⟨o', e', n⟩ := h a ha
  rw [e] at e'
  cases e'
  exact n
theorem nt_lst (xs : List V) : (∀ ys, HO.lst xs ≠ .tup ys) ∧ ∀ z ys, HO.lst xs ≠ .frz z (.tup ys) := ⟨(fun _ z => nomatch z), (fun _ _ z => nomatch z)⟩
theorem nt_ins (C dx : Addr) (fs : List (Str × V)) : (∀ ys, HO.ins C dx fs ≠ .tup ys) ∧ ∀ z ys, HO.ins C dx fs ≠ .frz z (.tup ys) := ⟨(fun _ z => nomatch z), (fun _ _ z => nomatch z)⟩
/-! ### fields -/
section
variable {K : PySem.W.Frag} {te ta : TE} {tt : TT} {σ : L2.St} {H : Hp} {u : TS} {D : Ends} {i : Nat} {p C dx : Addr} {fs : List (Str × V)} {f : Str} {v : V} {d d1 d2 : PyData} {names : List Str}
theorem ev_fld (T : ClsT K C names) (hf : f ∈ names) (hi : σ[i]? = some (some (.ref p))) (hp : H p = some (.ins C dx fs)) (hl : fs.lookup f = some v) : EvV (tFld K (tVar i) f) σ H v := fun H1 Q s1 k =>
  ⟨_, hi, p, C, dx, fs, v, rfl, s1 _ _ hp, T.cl, T.na f hf, hl, k H1 (Same.refl _)⟩
theorem setFld (T : ClsT K C names) (hf : f ∈ names) (hi : σ[i]? = some (some (.ref p))) (hp : H p = some (.ins C dx fs)) (hl : fs.length < 1000) (h : EvV te σ H v) (k : ∀ H1, Same H H1 → u D σ (upd H1 p (.ins C dx (putF f v fs)))) : tSeq (sFld K (tVar i) te f) u D σ H :=
  h H _ (Same.refl H) fun H1 s1 => ⟨_, hi, p, C, dx, fs, rfl, s1 _ _ hp, T.cl, T.na f hf, hl, k H1 s1⟩
theorem setFldD (T : ClsT K C names) (hf : f ∈ names) (hi : σ[i]? = some (some (.ref p))) (hp : H p = some (.ins C dx fs)) (hl : fs.length < 1000) (h : EvD K te σ H d) (k : ∀ v H1, Same H H1 → Dp K H1 v d → u D σ (upd H1 p (.ins C dx (putF f v fs)))) : tSeq (sFld K (tVar i) te f) u D σ H :=
  h H _ (Same.refl H) fun v H1 s1 d1 => ⟨_, hi, p, C, dx, fs, rfl, s1 _ _ hp, T.cl, T.na f hf, hl, k v H1 s1 d1⟩
theorem setFldO {ds : List PyData} (T : ClsT K C names) (hf : f ∈ names) (hi : σ[i]? = some (some (.ref p))) (hp : H p = some (.ins C dx fs)) (hl : fs.length < 1000) (h : EvO K te σ H ds) (k : ∀ q vs H1, H q = none → Same H H1 → H1 q = some (.lst vs) → DpAll K H1 vs ds → u D σ (upd H1 p (.ins C dx (putF f (.ref q) fs)))) : tSeq (sFld K (tVar i) te f) u D σ H :=
  h H _ (Same.refl H) fun q vs H1 nq s1 e1 d1 => ⟨_, hi, p, C, dx, fs, rfl, s1 _ _ hp, T.cl, T.na f hf, hl, k q vs H1 nq s1 e1 d1⟩
theorem setFldL (T : ClsT K C names) (hf : f ∈ names) (hi : σ[i]? = some (some (.ref p))) (hp : H p = some (.ins C dx fs)) (hl : fs.length < 1000) (h : EvV te σ H v) (k : ∀ H1, Same H H1 → D.nx σ (upd H1 p (.ins C dx (putF f v fs)))) : sFld K (tVar i) te f D σ H :=
  h H _ (Same.refl H) fun H1 s1 => ⟨_, hi, p, C, dx, fs, rfl, s1 _ _ hp, T.cl, T.na f hf, hl, k H1 s1⟩
theorem augFld {n j : Int} (T : ClsT K C names) (hf : f ∈ names) (hi : σ[i]? = some (some (.ref p))) (hp : H p = some (.ins C dx fs)) (hl : fs.length < 1000) (hv : fs.lookup f = some (.int n)) (h : EvV te σ H (.int j)) (k : ∀ H1, Same H H1 → u D σ (upd H1 p (.ins C dx (putF f (.int (n + j)) fs)))) : tSeq (sFldAug K (tVar i) te rAdd f) u D σ H :=
  ⟨_, hi, p, C, dx, fs, _, rfl, hp, T.cl, T.na f hf, hv, h H _ (Same.refl H) fun H1 s1 => ⟨n, j, rfl, rfl, dx, fs, s1 _ _ hp, hl, k H1 s1⟩⟩
/-- two fields at once -/
theorem unp2F {g : Str} (T : ClsT K C names) (hf : f ∈ names) (hg : g ∈ names) (hi : σ[i]? = some (some (.ref p))) (hp : H p = some (.ins C dx fs)) (hl : ∀ v, fs.length < 1000 ∧ (putF f v fs).length < 1000) (h : EvD K te σ H (.tuple [d1, d2]))
    (k : ∀ v1 v2 H1, Same H H1 → Dp K H1 v1 d1 → Dp K H1 v2 d2 → u D σ (upd (upd H1 p (.ins C dx (putF f v1 fs))) p (.ins C dx (putF g v2 (putF f v1 fs))))) : tSeq (tAsg te (gTup K 2 (gCons (gFld K (tVar i) f) (gCons (gFld K (tVar i) g) gNil)))) u D σ H :=
  h H _ (Same.refl H) fun v H1 s1 dv => by
    cases dv with
    | tup hs ha =>
      obtain ⟨v1, v2, rfl, a1, a2⟩ := dpaN2 ha
      exact ⟨_, _, rfl, hs, rfl, _, _, rfl, _, hi, p, C, dx, fs, rfl, s1 _ _ hp, T.cl, T.na f hf, (hl v1).1, _, _, rfl, _, hi, p, C, dx, _, rfl, upd_same, T.cl, T.na g hg, (hl v1).2, rfl, k v1 v2 H1 s1 a1 a2⟩
/-- x = f(..) that may raise: both ways -/
theorem asgXO {n j : Nat} {tas : TA} {ds : List PyData} {ff : List PyData → Except Err (List Int)} {E : L2.St → XK} (h : EvDs K tas σ H ds) (hl : ds.length = n) (hok : ∀ r q H1, ff ds = .ok r → H q = none → Same H H1 → H1 q = some (.lst (r.map V.int)) → u D (σ.set j (some (.ref q))) H1)
    (her : ∀ e H1, ff ds = .error e → Same H H1 → E σ (.ref (errC K e)) none H1) : tSeq (tAsg (tCallS (PSpXO K n ff) E tas) (gName j)) u D σ H :=
  h H _ (Same.refl H) fun vs H2 s2 d2 => ⟨ds, d2, hl, fun r hr q H3 nq s3 e3 => hok r q H3 hr (s2.free nq) (s2.trans s3) e3, fun e he H3 s3 => her e H3 he (s2.trans s3)⟩
/-- xs.append(data), the last statement -/
theorem appDL {xs : List V} (hi : σ[i]? = some (some (.ref p))) (hp : H p = some (.lst xs)) (hl : xs.length ≤ 100000) (h : EvD K te σ H d) (k : ∀ v H1, Same H H1 → Dp K H1 v d → D.nx σ (upd H1 p (.lst (xs ++ [v])))) : tDrop (tBM K "list" rAppend (tVar i) (tCons te tNil)) D σ H :=
  ⟨_, hi, .inl ⟨rfl, _, .inl (.inl hp)⟩, h H _ (Same.refl H) fun v H1 s1 d1 => ⟨p, xs, v, rfl, rfl, s1 _ _ hp, Nat.lt_of_le_of_lt hl (by decide), k v H1 s1 d1⟩⟩
theorem ev_ixLast {ns : List Int} {x : Int} (hi : σ[i]? = some (some (.ref p))) (hp : H p = some (.lst ((ns ++ [x]).map V.int))) : EvV (tOp (rIxL K) (tVar i) (tUn (rU fun i => V.int (-i)) (tC (.int 1)))) σ H (.int x) := fun H1 Q s1 k =>
  ⟨_, hi, 1, rfl, p, (ns ++ [x]).map V.int, -1, .int x, rfl, rfl, .inl (.inl (s1 _ _ hp)), by rw [List.map_append]; exact atI_last _ _, k H1 (Same.refl _)⟩
/-- o.f.append(e) -/
theorem appF {q : Addr} {xs : List V} (T : ClsT K C names) (hf : f ∈ names) (hi : σ[i]? = some (some (.ref p))) (hp : H p = some (.ins C dx fs)) (hl : fs.lookup f = some (.ref q)) (hq : H q = some (.lst xs)) (hz : xs.length ≤ 100000) (h : EvV te σ H v) (k : ∀ H1, Same H H1 → u D σ (upd H1 q (.lst (xs ++ [v])))) :
    tSeq (tDrop (tBM K "list" rAppend (tFld K (tVar i) f) (tCons te tNil))) u D σ H :=
  ⟨_, hi, p, C, dx, fs, _, rfl, hp, T.cl, T.na f hf, hl, .inl ⟨rfl, _, .inl (.inl hq)⟩, h H _ (Same.refl H) fun H1 s1 => ⟨q, xs, v, rfl, rfl, s1 _ _ hq, Nat.lt_of_le_of_lt hz (by decide), k H1 s1⟩⟩
theorem ifB {b : Bool} {tw : TS} (h : EvB tt σ H b) (hy : b = true → ∀ H1, Same H H1 → tw { D with nx := u D } σ H1) (hn : b = false → ∀ H1, Same H H1 → u D σ H1) : tSeq (tIfS tt tw tNext) u D σ H := h H _ (Same.refl H) fun H1 s => by
  cases b with
  | true => exact iteT (hy rfl H1 s)
  | false => exact iteF (hn rfl H1 s)
theorem lp {n : Nat} (h : fs.length ≤ n) : (putF f v fs).length ≤ n + 1 := by
  have := length_putF f v fs
  omega
end
/-! ### data, where an object stands that is none -/
theorem sql_del {K : PySem.W.Frag} {H : Hp} {p a : Addr} {xs : List V} {C dx : Addr} {fs : List (Str × V)} (hp : H p = some (.ins C dx fs)) (h : SqL K H a xs) : SqL K (erase p H) a xs := by
  rcases h with (h | ⟨z, h⟩) | h
  · exact .inl (.inl (by rw [erase_at (fun e => by rw [e, hp] at h; cases h)]; exact h))
  · exact .inl (.inr ⟨z, by rw [erase_at (fun e => by rw [e, hp] at h; cases h)]; exact h⟩)
  · exact .inr h
theorem sqt_del {K : PySem.W.Frag} {H : Hp} {p a : Addr} {xs : List V} {C dx : Addr} {fs : List (Str × V)} (hp : H p = some (.ins C dx fs)) (h : SqT K H a xs) : SqT K (erase p H) a xs := by
  rcases h with (h | ⟨z, h⟩) | h
  · exact .inl (.inl (by rw [erase_at (fun e => by rw [e, hp] at h; cases h)]; exact h))
  · exact .inl (.inr ⟨z, by rw [erase_at (fun e => by rw [e, hp] at h; cases h)]; exact h⟩)
  · exact .inr h
mutual
theorem dp_del {K : PySem.W.Frag} {H : Hp} {p : Addr} {C dx : Addr} {fs : List (Str × V)} (hp : H p = some (.ins C dx fs)) : ∀ (d : PyData) (v : V), Dp K H v d → Dp K (erase p H) v d
  | .none, _, h => by cases h; exact .non
  | .bool b, _, h => by cases h; exact .bl b
  | .int i, _, h => by cases h; exact .int i
  | .str x, _, h => by cases h; exact .str x
  | .list ds, _, h => by
    cases h with
    | lst hs ha => exact .lst (sql_del hp hs) (dpa_del hp ds _ ha)
  | .tuple ds, _, h => by
    cases h with
    | tup hs ha => exact .tup (sqt_del hp hs) (dpa_del hp ds _ ha)
  | .dict _, _, h => by cases h
theorem dpa_del {K : PySem.W.Frag} {H : Hp} {p : Addr} {C dx : Addr} {fs : List (Str × V)} (hp : H p = some (.ins C dx fs)) : ∀ (ds : List PyData) (vs : List V), DpAll K H vs ds → DpAll K (erase p H) vs ds
  | [], _, h => by cases h; exact .nil
  | d :: ds, _, h => by
    cases h with
    | cons h1 h2 => exact .cons (dp_del hp d _ h1) (dpa_del hp ds _ h2)
end
theorem Keep.erase {p : Addr} {A B : Hp} (h : Keep [p] A B) : Same (Pl.erase p A) B := fun b o e => by
  unfold Pl.erase at e
  split at e
  · cases e
  · rename_i n
    exact h b o (by simp [n]) e
theorem dp_ins {K : PySem.W.Frag} {A B : Hp} {p : Addr} {C dx : Addr} {fs : List (Str × V)} {d : PyData} {v : V} (h : Keep [p] A B) (hp : A p = some (.ins C dx fs)) (hd : Dp K A v d) : Dp K B v d := dp_same h.erase _ _ (dp_del hp d v hd)
section
variable {H : Hp}
theorem upd_upd {H : Hp} {p : Addr} {a b : HO} : upd (upd H p a) p b = upd H p b := funext fun x => by
  by_cases e : x = p
  · subst e
    rw [upd_same, upd_same]
  · rw [upd_ne e, upd_ne e, upd_ne e]
end
end Pl

namespace Pl
open PySem PySem.Spec PyProof.Rows L2
/-! ### certain by figures, in two parts -/
theorem certain_split {goal : S3} {g : Int} (gg : goal.Good) : ∀ {ss : List Int} {m : Nat} {now : S3} {cs : List Int}, now.Good → Plan cs g → Signs cs.length ss → withinB goal (strOf now cs g ss) = true → ss.length ≤ m → certainOf goal g m now cs = ss ++ certainOf goal g (m - ss.length) (strOf now cs g ss) (after cs g ss)
  | [], _, _, _, _, _, _, _, _ => rfl
  | x :: r, 0, _, _, _, _, _, _, hm => absurd hm (by simp)
  | x :: r, m + 1, now, cs, h, p, hs, hw, hm => by
    have hx := hs x List.mem_cons_self
    have g1 := part_good h p hx.1 hx.2
    have p1 := p.grown hx.1 hx.2
    have s1 : Signs (grown cs g x).length r := Signs.grown fun y hy => hs y (List.mem_cons_of_mem _ hy)
    obtain ⟨i, rfl⟩ := Int.eq_ofNat_of_zero_le hx.1
    have w1 : withinB goal (partAt now cs (i : Int)) = true := within_trans gg (str_good g1 p1 s1) g1 hw (str_within g1 p1 s1)
    have ih := certain_split gg (ss := r) (m := m) g1 p1 s1 hw (by simpa using hm)
    have e : certainOf goal g (m + 1) now cs = (i : Int) :: certainOf goal g m (partAt now cs (i : Int)) (grown cs g (i : Int)) := by
      show (match signIn goal now cs with | none => [] | some x => (x : Int) :: certainOf goal g m (partAt now cs (x : Int)) (grown cs g (x : Int))) = _
      rw [signIn_is gg h p (by omega) w1]
    rw [e, ih, List.length_cons, Nat.succ_sub_succ]
    rfl
theorem signIn_whole {now : S3} {cs : List Int} {g : Int} (h : now.Good) (p : Plan cs g) : signIn now now cs = none := by
  refine List.find?_eq_none.mpr fun x hx => ?_
  have hx := List.mem_range.mp hx
  rw [part_less h p (x := (x : Int)) (by omega) (by omega)]
  exact Bool.false_ne_true
theorem certain_now {now : S3} {cs : List Int} {g : Int} (h : now.Good) (p : Plan cs g) : ∀ m, certainOf now g m now cs = []
  | 0 => rfl
  | m + 1 => by
    show (match signIn now now cs with | none => [] | some x => (x : Int) :: certainOf now g m (partAt now cs (x : Int)) (grown cs g (x : Int))) = _
    rw [signIn_whole h p]
theorem certain_step {goal now : S3} {cs : List Int} {g : Int} {m : Nat} {x : Nat} (e : signIn goal now cs = some x) : certainOf goal g (m + 1) now cs = (x : Int) :: certainOf goal g m (partAt now cs (x : Int)) (grown cs g (x : Int)) := by
  show (match signIn goal now cs with | none => [] | some x => (x : Int) :: certainOf goal g m (partAt now cs (x : Int)) (grown cs g (x : Int))) = _
  rw [e]
theorem certain_stop {goal now : S3} {cs : List Int} {g : Int} (e : signIn goal now cs = none) : ∀ m, certainOf goal g m now cs = []
  | 0 => rfl
  | m + 1 => by
    show (match signIn goal now cs with | none => [] | some x => (x : Int) :: certainOf goal g m (partAt now cs (x : Int)) (grown cs g (x : Int))) = _
    rw [e]
/-- the signs certain by figures -/
def sgn (cs : List Int) (g : Int) (m : Nat) (as : List Int) : List Int := certainOf (figS as) g m whole3 cs
theorem sgn_nil {cs : List Int} {g : Int} (p : Plan cs g) (m : Nat) : sgn cs g m [] = [] := certain_now whole_good p m
theorem sgn_signs {cs : List Int} {g : Int} (p : Plan cs g) (m : Nat) (as : List Int) : (sgn cs g m as).length ≤ m ∧ Signs cs.length (sgn cs g m as) := certain_signs p
theorem sgn_within {cs : List Int} {g : Int} {m : Nat} {as : List Int} (hb : Bits as) : withinB (figS as) (textS cs g (sgn cs g m as)) = true := certain_within (in_whole (figS_good hb))
theorem Bits.both {as fs : List Int} (h : Bits as) (k : Bits fs) : Bits (as ++ fs) := fun x hx => by
  rcases List.mem_append.mp hx with hx | hx
  · exact h x hx
  · exact k x hx
theorem sgn_more {cs : List Int} {g : Int} {m : Nat} {as fs : List Int} (p : Plan cs g) (ha : Bits as) (hf : Bits fs) : withinB (figS (as ++ fs)) (textS cs g (sgn cs g m as)) = true :=
  within_trans (figS_good (ha.both hf)) (figS_good ha) (str_good whole_good p (sgn_signs p m as).2) (figs_prefix hf) (sgn_within ha)
/-! ### a reader as it stands -/
def rdF (m k : Int) (l : Addr) (S P I : V) : List (Str × V) := [("_many", .int m), ("_signs", .ref l), ("_stretch", S), ("_plan", P), ("_taken", .int k), ("_inner", I)]
abbrev rdN : List Str := ["_many", "_signs", "_stretch", "_plan", "_taken", "_inner"]
section
variable {m k k' : Int} {l : Addr} {S P I S' P' I' : V}
theorem rd_many : (rdF m k l S P I).lookup ("_many" : Str) = some (.int m) := by kernel_rfl
theorem rd_signs : (rdF m k l S P I).lookup ("_signs" : Str) = some (.ref l) := by kernel_rfl
theorem rd_stretch : (rdF m k l S P I).lookup ("_stretch" : Str) = some S := by kernel_rfl
theorem rd_plan : (rdF m k l S P I).lookup ("_plan" : Str) = some P := by kernel_rfl
theorem rd_taken : (rdF m k l S P I).lookup ("_taken" : Str) = some (.int k) := by kernel_rfl
theorem rd_inner : (rdF m k l S P I).lookup ("_inner" : Str) = some I := by kernel_rfl
theorem rd_pstretch : putF "_stretch" S' (rdF m k l S P I) = rdF m k l S' P I := by kernel_rfl
theorem rd_pplan : putF "_plan" P' (rdF m k l S P I) = rdF m k l S P' I := by kernel_rfl
theorem rd_ptaken : putF "_taken" (.int k') (rdF m k l S P I) = rdF m k' l S P I := by kernel_rfl
theorem rd_pinner : putF "_inner" I' (rdF m k l S P I) = rdF m k l S P I' := by kernel_rfl
theorem rd_new : putF "_inner" I (putF "_taken" (.int k) (putF "_plan" P (putF "_stretch" S (putF "_signs" (.ref l) (putF "_many" (.int m) []))))) = rdF m k l S P I := by kernel_rfl
theorem rd_no {x : Str} (h : rdN.contains x = false) : (rdF m k l S P I).lookup x = none := by
  have hb : ∀ y ∈ rdN, (x == y) = false := fun y hy => by
    cases e : (x == y) with
    | false => rfl
    | true =>
      have := beq_iff_eq.mp e
      subst this
      rw [List.contains_iff_mem.mpr hy] at h
      cases h
  unfold rdF
  rw [List.lookup, hb _ (by simp), List.lookup, hb _ (by simp), List.lookup, hb _ (by simp), List.lookup, hb _ (by simp), List.lookup, hb _ (by simp), List.lookup, hb _ (by simp)]
  rfl
theorem rd_len : (rdF m k l S P I).length < 1000 := by show 6 < 1000; omega
end
/-- with the signs ss told, of the figures as -/
structure RdG (K : PySem.W.Frag) (C : Addr) (H : Hp) (p l : Addr) (cs : List Int) (g : Int) (m : Nat) (as ss : List Int) : Prop where
  at_ : ∃ dx S P I, H p = some (.ins C dx (rdF m as.length l S P I)) ∧ Dp K H S (textS cs g ss).d ∧ Dp K H P (planD (after cs g ss) g) ∧ Dp K H I (figS as).d
  sg : H l = some (.lst (ss.map V.int))
structure RdO (cs : List Int) (g : Int) (m : Nat) (as : List Int) : Prop where
  pl : Plan cs g
  m60 : m ≤ 60
  bits : Bits as
  few : as.length ≤ 4000
theorem RdG.ne {K : PySem.W.Frag} {C : Addr} {H : Hp} {p l : Addr} {cs as ss : List Int} {g : Int} {m : Nat} (h : RdG K C H p l cs g m as ss) : l ≠ p := fun z => by
  obtain ⟨dx, S, P, I, e, _⟩ := h.at_
  have := h.sg
  rw [z, e] at this
  cases this
theorem RdG.nt {K : PySem.W.Frag} {C : Addr} {H : Hp} {p l : Addr} {cs as ss : List Int} {g : Int} {m : Nat} (h : RdG K C H p l cs g m as ss) : NoTup [p, l] H := by
  obtain ⟨dx, S, P, I, e, _⟩ := h.at_
  refine notup_of fun a ha => ?_
  simp only [List.mem_cons, List.not_mem_nil, or_false] at ha
  rcases ha with rfl | rfl
  · exact ⟨_, e, nt_ins _ _ _⟩
  · exact ⟨_, h.sg, nt_lst _⟩
/-- as long as neither the reader nor its list is touched -/
theorem RdG.keep {K : PySem.W.Frag} {C : Addr} {H H' : Hp} {p l : Addr} {cs as ss : List Int} {g : Int} {m : Nat} {M : List Addr} (h : RdG K C H p l cs g m as ss) (k : Keep M H H') (hp : p ∉ M) (hl : l ∉ M) (nt : NoTup M H) : RdG K C H' p l cs g m as ss := by
  obtain ⟨dx, S, P, I, e, d1, d2, d3⟩ := h.at_
  exact ⟨⟨dx, S, P, I, k _ _ hp e, dp_keep k nt (tupO_s3 _) d1, dp_keep k nt (tupO_plan _ _) d2, dp_keep k nt (tupO_s3 _) d3⟩, k _ _ hl h.sg⟩
theorem RdG.same {K : PySem.W.Frag} {C : Addr} {H H' : Hp} {p l : Addr} {cs as ss : List Int} {g : Int} {m : Nat} (h : RdG K C H p l cs g m as ss) (s : Same H H') : RdG K C H' p l cs g m as ss :=
  h.keep (M := []) (Same.keep s) (fun z => nomatch z) (fun z => nomatch z) (fun a ha => nomatch ha)
abbrev RdAt (K : PySem.W.Frag) (C : Addr) (H : Hp) (p l : Addr) (cs : List Int) (g : Int) (m : Nat) (as : List Int) : Prop := RdG K C H p l cs g m as (sgn cs g m as)
end Pl

namespace Pl
open PySem PySem.Spec PyProof.Rows L2
/-! ### dicts with text keys -/
abbrev TKey (x : Str) : Key := Sum.inr x
section
variable {K : PySem.W.Frag} {te ta tb td : TE} {tt : TT} {σ : L2.St} {H : Hp} {u tw : TS} {D : Ends} {i j : Nat} {a p : Addr} {kvs : List (Key × V)} {k : Str} {v : V} {d d1 d2 : PyData} {xs : List V} {n m : Int}
theorem ev_dget (h : EvV te σ H (.ref a)) (hd : H a = some (.dK kvs)) (hv : valV kvs (TKey k) = some v) : EvV (tDGet te (tC (.str k))) σ H v := fun H1 Q s1 q =>
  h H1 _ s1 fun H2 s2 => ⟨a, v, rfl, by
    have e := DGet.k (k := TKey k) ((s1.trans s2) _ _ hd)
    rw [hv] at e
    exact e, q H2 s2⟩
theorem putDict (hi : σ[i]? = some (some (.ref a))) (hd : H a = some (.dK kvs)) (hl : kvs.length ≤ 1000) (h : EvV te σ H v) (q : ∀ H1, Same H H1 → u D σ (upd H1 a (.dK (putK kvs (TKey k) v)))) : tSeq (sDPut (tVar i) (tC (.str k)) te) u D σ H :=
  h H _ (Same.refl H) fun H1 s1 => ⟨_, hi, a, _, rfl, DPut.k (k := TKey k) (s1 _ _ hd) (Nat.lt_of_le_of_lt hl (by decide)), q H1 s1⟩
theorem putDictO {ds : List PyData} (hi : σ[i]? = some (some (.ref a))) (hd : H a = some (.dK kvs)) (hl : kvs.length ≤ 1000) (h : EvO K te σ H ds) (q : ∀ r vs H1, H r = none → Same H H1 → H1 r = some (.lst vs) → DpAll K H1 vs ds → u D σ (upd H1 a (.dK (putK kvs (TKey k) (.ref r))))) : tSeq (sDPut (tVar i) (tC (.str k)) te) u D σ H :=
  h H _ (Same.refl H) fun r vs H1 nr s1 e1 d1 => ⟨_, hi, a, _, rfl, DPut.k (k := TKey k) (s1 _ _ hd) (Nat.lt_of_le_of_lt hl (by decide)), q r vs H1 nr s1 e1 d1⟩
/-- xs[n] of a list at its place -/
theorem ev_ixAt (h : EvV ta σ H (.ref p)) (hp : H p = some (.lst xs)) (hn : EvV tb σ H (.int n)) (he : atI xs n = some v) : EvV (tOp (rIxL K) ta tb) σ H v := fun H1 Q s1 q =>
  h H1 _ s1 fun H2 s2 => hn H2 _ (s1.trans s2) fun H3 s3 => ⟨p, xs, n, v, rfl, rfl, .inl (.inl (((s1.trans s2).trans s3) _ _ hp)), he, q H3 (s2.trans s3)⟩
theorem ev_min (ha : EvV ta σ H (.int n)) (hb : EvV tb σ H (.int m)) : EvV (tCB (fun xs H Q => ∃ i j, xs = [.int i, .int j] ∧ Q (.int (if j < i then j else i)) H) (tCons ta (tCons tb tNil))) σ H (.int (if m < n then m else n)) := fun H1 Q s1 q =>
  ha H1 _ s1 fun H2 s2 => hb H2 _ (s1.trans s2) fun H3 s3 => ⟨n, m, rfl, q H3 (s2.trans s3)⟩
/-- for i in range(lo, hi) -/
theorem forR2 {lo : Nat} (ha : EvV ta σ H (.int (lo : Int))) (hb : EvV tb σ H (.int n)) (hz : n ≤ 100000) (hz0 : -100000 ≤ n) (hl : lo ≤ 100000) (Pv : Nat → L2.St → Hp → Prop) (h0 : ∀ H1, Same H H1 → Pv 0 σ H1)
    (hs : ∀ i σ' H', i < (n - (lo : Int)).toNat → Pv i σ' H' → tw { nx := Pv (i + 1), rt := D.rt, bk := u D, ct := Pv (i + 1) } (σ'.set j (some (.int ((lo + i : Nat) : Int)))) H') (hd : ∀ σ' H', Pv (n - (lo : Int)).toNat σ' H' → u D σ' H') : tSeq (tFor (iRng2 (tCons ta (tCons tb tNil))) (gName j) tw) u D σ H :=
  ha H _ (Same.refl H) fun H1 s1 => hb H1 _ s1 fun H2 s2 => ⟨(lo : Int), n, rfl, ⟨by omega, by omega, by omega, by omega⟩,
    for_range (lo := (lo : Int)) (n := (n - (lo : Int)).toNat) (D := { D with nx := u D }) Pv (h0 H2 (s1.trans s2)) (fun i σ' H' hi p => by
      have := hs i σ' H' hi p
      rw [Int.natCast_add] at this
      exact this) hd⟩
/-- a for over a list of pairs, as data -/
theorem forDLP {ds : List (PyData × PyData)} (he : EvD K te σ H (.list (ds.map fun q => .tuple [q.1, q.2]))) (Pv : Nat → L2.St → Hp → Prop) (h0 : ∀ H1, Same H H1 → Pv 0 σ H1)
    (hs : ∀ k d1 d2 x y σ' H' H1, ds[k]? = some (d1, d2) → Same H H1 → Same H1 H' → Dp K H' x d1 → Dp K H' y d2 → Pv k σ' H' → tw { nx := fun σ2 H2 => Same H1 H2 ∧ Pv (k + 1) σ2 H2, rt := D.rt, bk := u D, ct := fun σ2 H2 => Same H1 H2 ∧ Pv (k + 1) σ2 H2 } ((σ'.set i (some x)).set j (some y)) H')
    (hd : ∀ σ' H', Pv ds.length σ' H' → u D σ' H') : tSeq (tFor (iList K te) (gTup K 2 (gCons (gName i) (gCons (gName j) gNil))) tw) u D σ H :=
  he H _ (Same.refl H) fun v H1 s1 dv => by
    obtain ⟨p, vs, rfl, hq, ha⟩ : ∃ p vs, v = .ref p ∧ SqL K H1 p vs ∧ DpAll K H1 vs (ds.map fun q => .tuple [q.1, q.2]) := by
      cases dv with
      | lst hq ha => exact ⟨_, _, rfl, hq, ha⟩
    refine ⟨p, rfl, ⟨_, hq⟩, for_list (K := K) (D := { D with nx := u D }) (fun i σ' H' => Same H1 H' ∧ Pv i σ' H') ⟨Same.refl _, h0 H1 s1⟩ (fun i σ' H' _ q => q.1.seq hq) (fun k x σ' H' e q => ?_) (fun σ' H' q => hd σ' H' (by
      have hl := dpa_len ha
      rw [List.length_map] at hl
      rw [← hl]
      exact q.2))⟩
    obtain ⟨d, ed, hx⟩ := dpa_get2 ha e
    rw [List.getElem?_map] at ed
    obtain ⟨⟨d1, d2⟩, e2, rfl⟩ := Option.map_eq_some_iff.mp ed
    have hx' := dp_same q.1 _ _ hx
    cases hx' with
    | tup ht hta =>
      obtain ⟨v1, v2, rfl, a1, a2⟩ := dpaN2 hta
      exact ⟨_, _, rfl, ht, rfl, _, _, rfl, _, _, rfl, rfl, hs k d1 d2 v1 v2 σ' H' H1 e2 s1 q.1 a1 a2 q.2⟩
end
/-! ### what may change, and the rest -/
def imm (M : List Addr) (H : Hp) : Hp := fun a => if a ∈ M then none else H a
theorem imm_same (M : List Addr) (H : Hp) : Same (imm M H) H := fun b o e => by
  unfold imm at e
  split at e
  · cases e
  · exact e
theorem imm_at {M : List Addr} {H : Hp} {a : Addr} (h : a ∉ M) : imm M H a = H a := if_neg h
theorem imm_keep {M N : List Addr} {A B : Hp} (h : Keep N A B) (hs : ∀ x ∈ N, x ∈ M) : Same (imm M A) (imm M B) := fun b o e => by
  unfold imm at e ⊢
  split at e
  · cases e
  · rename_i n
    rw [if_neg n]
    exact h b o (fun z => n (hs b z)) e
theorem imm_more {M : List Addr} {A B : Hp} {q : Addr} (s : Same A B) (h : A q = none) : Same (imm M A) (imm (q :: M) B) := fun b o e => by
  unfold imm at e ⊢
  split at e
  · cases e
  · rename_i n
    have hb : b ≠ q := fun z => by
      rw [z, h] at e
      cases e
    rw [if_neg (by simp [n, hb])]
    exact s b o e
/-- what is new is not of M, where all of M stand -/
def Live (M : List Addr) (H : Hp) : Prop := ∀ a ∈ M, ∃ o, H a = some o ∧ (∀ xs, o ≠ .tup xs) ∧ ∀ z xs, o ≠ .frz z (.tup xs)
theorem Live.nt {M : List Addr} {H : Hp} (h : Live M H) : NoTup M H := notup_of h
theorem Live.new {M : List Addr} {H : Hp} {q : Addr} (h : Live M H) (n : H q = none) : q ∉ M := fun z => by
  obtain ⟨o, e, _⟩ := h q z
  rw [n] at e
  cases e
theorem nt_dk (kvs : List (Key × V)) : (∀ ys, HO.dK kvs ≠ .tup ys) ∧ ∀ z ys, HO.dK kvs ≠ .frz z (.tup ys) := ⟨(fun _ z => nomatch z), (fun _ _ z => nomatch z)⟩
/-- pairs of two lists that are alike -/
def Pairs (K : PySem.W.Frag) (H : Hp) (xs : List V) : Prop := ∀ x ∈ xs, ∃ (q f c : Addr) (ns : List Int), x = .ref q ∧ SqT K H q [.ref f, .ref c] ∧ H f = some (.lst (ns.map V.int)) ∧ H c = some (.lst (ns.map V.int))
theorem Pairs.same {K : PySem.W.Frag} {H H' : Hp} {xs : List V} (h : Pairs K H xs) (s : Same H H') : Pairs K H' xs := fun x hx => by
  obtain ⟨q, f, c, ns, e, h1, h2, h3⟩ := h x hx
  exact ⟨q, f, c, ns, e, same_t s h1, s _ _ h2, s _ _ h3⟩
theorem Pairs.nil {K : PySem.W.Frag} {H : Hp} : Pairs K H [] := fun _ h => nomatch h
theorem Pairs.app {K : PySem.W.Frag} {H : Hp} {xs ys : List V} (h : Pairs K H xs) (k : Pairs K H ys) : Pairs K H (xs ++ ys) := fun x hx => by
  rcases List.mem_append.mp hx with hx | hx
  · exact h x hx
  · exact k x hx
theorem Pairs.one {K : PySem.W.Frag} {H : Hp} {q f c : Addr} {ns : List Int} (h : H q = some (.tup [.ref f, .ref c])) (hf : H f = some (.lst (ns.map V.int))) (hc : H c = some (.lst (ns.map V.int))) : Pairs K H [.ref q] := fun x hx => by
  rw [List.mem_singleton.mp hx]
  exact ⟨q, f, c, ns, rfl, .inl (.inl h), hf, hc⟩
/-- [1 for a, b in xs if a != b] -/
theorem evo_lcPairs {K : PySem.W.Frag} {te : TE} {σ : L2.St} {H : Hp} {i j : Nat} {p : Addr} {xs : List V} (h : EvV te σ H (.ref p)) (hp : SqL K H p xs) (hP : Pairs K H xs) (hw : ∀ x y, wipe (((wipe σ [i, j]).set i (some x)).set j (some y)) [i, j] = wipe σ [i, j])
    (hi : ∀ x y, (((wipe σ [i, j]).set i (some x)).set j (some y))[i]? = some (some x)) (hj : ∀ x y, (((wipe σ [i, j]).set i (some x)).set j (some y))[j]? = some (some y)) :
    EvO K (tLc (iList K te) (gTup K 2 (gCons (gName i) (gCons (gName j) gNil))) (tTest (tOp (rNeD K) (tVar i) (tVar j))) (tC (.int 1)) [i, j]) σ H (([] : List Int).map PyData.int) := fun H1 Q s1 k => by
  show te σ H1 fun x H2 => tLc (iList K (tC x)) (gTup K 2 (gCons (gName i) (gCons (gName j) gNil))) (tTest (tOp (rNeD K) (tVar i) (tVar j))) (tC (.int 1)) [i, j] σ H2 Q
  refine h H1 _ s1 fun H2 s2 => ?_
  have t2 := s1.trans s2
  refine ⟨p, rfl, ⟨xs, t2.seq hp⟩, fun L hL => ?_⟩
  refine L2.lc_list (K := K) (a := p) (xs := xs) (fun _ H' => Same H2 H' ∧ H' L = some (.lst [])) ⟨same_upd hL, upd_same⟩ (fun n H' _ q => (t2.trans q.1).seq hp) ?_ ?_
  · rintro n x H' e ⟨s3, eL⟩
    obtain ⟨q, f, c, ns, rfl, h1, h2, h3⟩ := hP x (List.mem_of_getElem? e)
    have t3 := t2.trans s3
    refine ⟨q, _, rfl, same_t t3 h1, rfl, _, _, rfl, _, _, rfl, rfl, hw _ _, ?_⟩
    refine (EvB.is (evb_test (ev_neL (K := K) (evd_var (hi _ _) (dp_list (t3 _ _ h2))) (evd_var (hj _ _) (dp_list (t3 _ _ h3))))) (by rw [decide_eq_true rfl]; first | done | rfl)) H' _ (Same.refl _) fun H4 s4 => ?_
    exact iteF ⟨s3.trans s4, s4 _ _ eL⟩
  · rintro H' ⟨s3, eL⟩
    exact k L [] H' (s2.free hL) (s2.trans s3) eL .nil
theorem asgT {te : TE} {σ : L2.St} {H : Hp} {u : TS} {D : Ends} {i : Nat} (h : te σ H fun x H1 => u D (σ.set i (some x)) H1) : tSeq (tAsg te (gName i)) u D σ H := h
theorem retT {te : TE} {σ : L2.St} {H : Hp} {D : Ends} (h : te σ H D.rt) : tRet te D σ H := h
theorem dispT {trs : List (TE × TE)} {σ : L2.St} {H : Hp} {Q : VK} (h : ∀ p, H p = none → tPairs trs σ (upd H p (.dK [])) fun ps H2 => H2 p = some (.dK []) ∧ ∃ kvs : List (Key × V), ps = kvs.map (fun kv => (kV kv.1, kv.2)) ∧ kvs.length ≤ 15 ∧ Q (.ref p) (upd H2 p (.dK (mergeK [] kvs)))) : tDisp trs σ H Q := h
theorem EvO.run {K : PySem.W.Frag} {te : TE} {σ : L2.St} {H : Hp} {ds : List PyData} {Q : VK} (h : EvO K te σ H ds) (k : ∀ p vs H2, H p = none → Same H H2 → H2 p = some (.lst vs) → DpAll K H2 vs ds → Q (.ref p) H2) : te σ H Q := h H Q (Same.refl _) k
theorem EvV.run {te : TE} {σ : L2.St} {H : Hp} {v : V} {Q : VK} (h : EvV te σ H v) (k : ∀ H2, Same H H2 → Q v H2) : te σ H Q := h H Q (Same.refl _) k
theorem EvD.run {K : PySem.W.Frag} {te : TE} {σ : L2.St} {H : Hp} {d : PyData} {Q : VK} (h : EvD K te σ H d) (k : ∀ v H2, Same H H2 → Dp K H2 v d → Q v H2) : te σ H Q := h H Q (Same.refl _) k
theorem EvB.run {tt : TT} {σ : L2.St} {H : Hp} {b : Bool} {Q : Bool → Hp → Prop} (h : EvB tt σ H b) (k : ∀ H2, Same H H2 → Q b H2) : tt σ H Q := h H Q (Same.refl _) k
/-! ### in an except suite there is as much room -/
theorem hu3_of {A B : Around} {k : Nat} (hr : Room k A) (h : B.units = A.units) : B.units + 64 < cLine := by
  rw [h]
  exact hu2_of hr
theorem hu4_of {A B : Around} {k : Nat} (hr : Room k A) (h : B.units = A.units) : B.units + 1 < cLine := Nat.lt_of_le_of_lt (by omega) (hu3_of hr h)
/-! ### o.append((x, list(x))) -/
theorem appPair {K : PySem.W.Frag} {ta : TE} {σ : L2.St} {H : Hp} {u : TS} {D : Ends} {j : Nat} {p f : Addr} {xs : List V} {ns : List Int} (h0 : EvV ta σ H (.ref p)) (hp : H p = some (.lst xs)) (hl : xs.length ≤ 100000) (hj : σ[j]? = some (some (.ref f))) (hf : H f = some (.lst (ns.map V.int)))
    (k : ∀ c q H2, H c = none → H q = none → c ≠ q → Same H H2 → H2 c = some (.lst (ns.map V.int)) → H2 q = some (.tup [.ref f, .ref c]) → u D σ (upd H2 p (.lst (xs ++ [.ref q])))) :
    tSeq (tDrop (tBM K "list" rAppend ta (tCons (tTup (tCons (tVar j) (tCons (tCB (rListK K) (tCons (tVar j) tNil)) tNil))) tNil))) u D σ H :=
  h0 H _ (Same.refl H) fun H1 s1 => ⟨.inl ⟨rfl, _, .inl (.inl (s1 _ _ hp))⟩, _, hj, _, hj, f, _, rfl, .inl (.inl (.inl (s1 _ _ hf))), fun c nc => ⟨(by show 2 ≤ sizeLine; decide), fun q nq => by
    have sc := same_upd nc (o := HO.lst (ns.map V.int))
    have sq := same_upd nq (o := HO.tup [V.ref f, V.ref c])
    have hcq : c ≠ q := fun z => by
      rw [← z, upd_same] at nq
      cases nq
    exact ⟨p, xs, .ref q, rfl, rfl, sq _ _ (sc _ _ (s1 _ _ hp)), Nat.lt_of_le_of_lt hl (by decide), k c q _ (s1.free nc) (s1.free (sc.free nq)) hcq ((s1.trans sc).trans sq) (sq _ _ upd_same) upd_same⟩⟩⟩
theorem if_asgO {K : PySem.W.Frag} {tt : TT} {te : TE} {σ : L2.St} {H H0 : Hp} {u : TS} {D : Ends} {i : Nat} {b : Bool} {p : Addr} {ns ms : List Int} (s0 : Same H0 H) (np : H0 p = none) (h : EvB tt σ H b) (ha : b = true → EvO K te σ H (ms.map PyData.int)) (hx : σ[i]? = some (some (.ref p))) (hp : H p = some (.lst (ns.map V.int)))
    (k : ∀ q H1, Same H H1 → H0 q = none → H1 q = some (.lst ((if b then ms else ns).map V.int)) → u D (σ.set i (some (.ref q))) H1) : tSeq (tIfS tt (tAsg te (gName i)) tNext) u D σ H :=
  h H _ (Same.refl H) fun H1 s1 => by
    cases b with
    | true => exact iteT (asgLastO ((ha rfl).mono s1) fun q vs H2 nq s2 e2 d2 => k q H2 (s1.trans s2) ((s0.trans s1).free nq) (by rw [dpa_ints_eq d2] at e2; exact e2))
    | false =>
      have e : σ.set i (some (.ref p)) = σ := by
        obtain ⟨hi, e⟩ := List.getElem?_eq_some_iff.mp hx
        rw [← e, List.set_getElem_self]
      have := k p H1 s1 np (s1 _ _ hp)
      rw [e] at this
      exact iteF this
theorem imm_notin {M : List Addr} {H : Hp} {x : Addr} {o : HO} (e : imm M H x = some o) : x ∉ M := fun z => by
  unfold imm at e
  rw [if_pos z] at e
  cases e
/-! ### a dict that holds a reader -/
def oneKV (p : Addr) (v : V) (m : Int) (r t s w : Addr) : List (Key × V) := [(TKey "reader", .ref p), (TKey "plan", v), (TKey "many", .int m), (TKey "row", .ref r), (TKey "taken", .ref t), (TKey "signs", .ref s), (TKey "shown", .ref w)]
section
variable {p r t s w t' s' : Addr} {v : V} {m : Int}
theorem kv_reader : valV (oneKV p v m r t s w) (TKey "reader") = some (.ref p) := by kernel_rfl
theorem kv_plan : valV (oneKV p v m r t s w) (TKey "plan") = some v := by kernel_rfl
theorem kv_many : valV (oneKV p v m r t s w) (TKey "many") = some (.int m) := by kernel_rfl
theorem kv_row : valV (oneKV p v m r t s w) (TKey "row") = some (.ref r) := by kernel_rfl
theorem kv_taken : valV (oneKV p v m r t s w) (TKey "taken") = some (.ref t) := by kernel_rfl
theorem kv_signs : valV (oneKV p v m r t s w) (TKey "signs") = some (.ref s) := by kernel_rfl
theorem kv_shown : valV (oneKV p v m r t s w) (TKey "shown") = some (.ref w) := by kernel_rfl
theorem kv_ptaken : putK (oneKV p v m r t s w) (TKey "taken") (.ref t') = oneKV p v m r t' s w := by kernel_rfl
theorem kv_psigns : putK (oneKV p v m r t s w) (TKey "signs") (.ref s') = oneKV p v m r t s' w := by kernel_rfl
theorem kv_merge : mergeK [] (oneKV p v m r t s w) = oneKV p v m r t s w := by kernel_rfl
theorem kv_len : (oneKV p v m r t s w).length ≤ 1000 := by show 7 ≤ 1000; omega
end
structure One8 (K : PySem.W.Frag) (C : Addr) (M : List Addr) (H : Hp) (a p l w : Addr) (cs : List Int) (g : Int) (m : Nat) (row as : List Int) (n : Nat) : Prop where
  ms : ∀ x ∈ [a, p, l, w], x ∈ M
  dic : ∃ v r t s, H a = some (.dK (oneKV p v m r t s w)) ∧ Dp K (imm M H) v (planD cs g) ∧ imm M H r = some (.lst (row.map V.int)) ∧ imm M H t = some (.lst (as.map V.int)) ∧ imm M H s = some (.lst ((sgn cs g m as).map V.int))
  rd : RdAt K C H p l cs g m as
  sh : ∃ xs, H w = some (.lst xs) ∧ Pairs K (imm M H) xs ∧ xs.length ≤ n
section
variable {K : PySem.W.Frag} {C : Addr} {M N : List Addr} {H H' : Hp} {a p l w q : Addr} {cs row as : List Int} {g : Int} {m n : Nat}
theorem One8.keep (h : One8 K C M H a p l w cs g m row as n) (k : Keep N H H') (hN : ∀ x ∈ N, x ∈ M) (nt : NoTup N H) (hd : ∀ x ∈ [a, p, l, w], x ∉ N) : One8 K C M H' a p l w cs g m row as n := by
  obtain ⟨v, r, t, s, e, d1, d2, d3, d4⟩ := h.dic
  obtain ⟨xs, ex, px, lx⟩ := h.sh
  have si := imm_keep k hN
  exact ⟨h.ms, ⟨v, r, t, s, k a _ (hd a (by simp)) e, dp_same si _ _ d1, si _ _ d2, si _ _ d3, si _ _ d4⟩, h.rd.keep k (hd p (by simp)) (hd l (by simp)) nt, ⟨xs, k w _ (hd w (by simp)) ex, px.same si, lx⟩⟩
theorem One8.same (h : One8 K C M H a p l w cs g m row as n) (s : Same H H') : One8 K C M H' a p l w cs g m row as n :=
  h.keep (N := []) (Same.keep s) (fun _ z => nomatch z) (fun _ z => nomatch z) (fun _ _ z => nomatch z)
theorem One8.live (h : One8 K C M H a p l w cs g m row as n) : Live [a, p, l, w] H := fun x hx => by
  obtain ⟨v, r, t, s, e, _⟩ := h.dic
  obtain ⟨dx, S, P, I, e2, _⟩ := h.rd.at_
  obtain ⟨xs, ex, _⟩ := h.sh
  simp only [List.mem_cons, List.not_mem_nil, or_false] at hx
  rcases hx with rfl | rfl | rfl | rfl
  · exact ⟨_, e, nt_dk _⟩
  · exact ⟨_, e2, nt_ins _ _ _⟩
  · exact ⟨_, h.rd.sg, nt_lst _⟩
  · exact ⟨_, ex, nt_lst _⟩
/-- one more that may change -/
theorem One8.more (h : One8 K C M H a p l w cs g m row as n) (s : Same H H') (hq : H q = none) : One8 K C (q :: M) H' a p l w cs g m row as n := by
  obtain ⟨v, r, t, z, e, d1, d2, d3, d4⟩ := h.dic
  obtain ⟨xs, ex, px, lx⟩ := h.sh
  have si := imm_more (M := M) s hq
  exact ⟨fun x hx => List.mem_cons_of_mem _ (h.ms x hx), ⟨v, r, t, z, s _ _ e, dp_same si _ _ d1, si _ _ d2, si _ _ d3, si _ _ d4⟩, h.rd.same s, ⟨xs, s _ _ ex, px.same si, lx⟩⟩
end
/-- what stands while one is changed, from H0 on -/
structure B8 (K : PySem.W.Frag) (C : Addr) (H0 Hc : Hp) (a p l w : Addr) (kv : List (Key × V)) (xs : List V) (cs : List Int) (g : Int) (m : Nat) (as : List Int) : Prop where
  kp : Keep [a, p, l, w] H0 Hc
  ea : Hc a = some (.dK kv)
  ew : Hc w = some (.lst xs)
  rd : RdAt K C Hc p l cs g m as
section
variable {K : PySem.W.Frag} {C : Addr} {H0 Hc H' : Hp} {a p l w x : Addr} {kv kv' : List (Key × V)} {xs xs' : List V} {cs as : List Int} {g : Int} {m : Nat}
theorem B8.same (h : B8 K C H0 Hc a p l w kv xs cs g m as) (s : Same Hc H') : B8 K C H0 H' a p l w kv xs cs g m as := ⟨h.kp.trans (Same.keep s), s _ _ h.ea, s _ _ h.ew, h.rd.same s⟩
theorem B8.mut (h : B8 K C H0 Hc a p l w kv xs cs g m as) {ys : List V} {o : HO} (hx : Hc x = some (.lst ys)) (n0 : H0 x = none) (n : x ≠ a ∧ x ≠ p ∧ x ≠ l ∧ x ≠ w) : B8 K C H0 (upd Hc x o) a p l w kv xs cs g m as := by
  have k : Keep [x] Hc (upd Hc x o) := keep_upd (by simp)
  have nt : NoTup [x] Hc := notup_of fun y hy => by rw [List.mem_singleton.mp hy]; exact ⟨_, hx, nt_lst _⟩
  refine ⟨fun b z nb eb => ?_, k a _ (by simp [n.1.symm]) h.ea, k w _ (by simp [n.2.2.2.symm]) h.ew, h.rd.keep k (by simp [n.2.1.symm]) (by simp [n.2.2.1.symm]) nt⟩
  have hb : b ≠ x := fun q => by rw [q, n0] at eb; cases eb
  rw [upd_ne hb]
  exact h.kp b z nb eb
theorem B8.dict (h : B8 K C H0 Hc a p l w kv xs cs g m as) (n : a ≠ p ∧ a ≠ l ∧ a ≠ w) : B8 K C H0 (upd Hc a (.dK kv')) a p l w kv' xs cs g m as := by
  have k : Keep [a] Hc (upd Hc a (.dK kv')) := keep_upd (by simp)
  have nt : NoTup [a] Hc := notup_of fun y hy => by rw [List.mem_singleton.mp hy]; exact ⟨_, h.ea, nt_dk _⟩
  exact ⟨h.kp.trans (keep_upd (by simp)), upd_same, k w _ (by simp [n.2.2.symm]) h.ew, h.rd.keep k (by simp [n.1.symm]) (by simp [n.2.1.symm]) nt⟩
theorem B8.show_ (h : B8 K C H0 Hc a p l w kv xs cs g m as) (n : a ≠ w ∧ p ≠ w ∧ l ≠ w) : B8 K C H0 (upd Hc w (.lst xs')) a p l w kv xs' cs g m as := by
  have k : Keep [w] Hc (upd Hc w (.lst xs')) := keep_upd (by simp)
  have nt : NoTup [w] Hc := notup_of fun y hy => by rw [List.mem_singleton.mp hy]; exact ⟨_, h.ew, nt_lst _⟩
  exact ⟨h.kp.trans (keep_upd (by simp)), k a _ (by simp [n.1]) h.ea, upd_same, h.rd.keep k (by simp [n.2.1]) (by simp [n.2.2]) nt⟩
end
end Pl

namespace Pl
open PySem PySem.Spec PyProof.Rows L2
def topS (i : Nat) : Stmt := PySem.Challenge.pw_partline_k08_readers.main.body.getD i (.Pass ⟨0, 0, 0, 0⟩)
abbrev FnP (K : PySem.W.Frag) (x : Str) (st : Stmt) (f : Addr) (fd : FuncData) : Prop := FunD K x x (defArgs st) (defBody st) (defScope st) [] [] f fd
abbrev PP : Program := PySem.Challenge.pw_partline_k08_readers

local macro_rules | `(tactic| walk_at "rd") => `(tactic| simp only [tSeq, tAsg, tRet, tRetN, tIfS, tNext, tDrop, tVar, tC, tOp, tUn, tTest, tB, tAnd, tOr, tNot, tAndV, tOrV, tNotV, tChain, tCons, tNil, tCB, tIf, tCall, tCallS, wipe, tTup, tLst, tSl, tNoPart, tPart, gSub, Evl.tCut, tM1, rLenK, rTupK, rListK, gName, gTup, gCons, gNil, rI, rI0, rU, rEq, rNe, scal, L2.start, List.length_cons, List.length_nil, List.map_cons, List.map_nil, List.append_nil, List.cons_append, List.nil_append, List.replicate, Nat.reduceAdd, Nat.reduceSub, Nat.zero_add, List.cons.injEq,
   List.getElem?_cons_zero, List.getElem?_cons_succ, List.set_cons_zero, List.set_cons_succ, Option.some.injEq, V.int.injEq, V.bl.injEq, V.ref.injEq, V.ty.injEq, V.str.injEq, exists_eq_left', exists_eq_left, exists_eq', exists_eq, exists_and_left, exists_and_right, reduceCtorEq, and_true, true_and, and_assoc, ite_true, ite_false, if_true, if_false, Bool.false_eq_true, false_and, and_false, exists_false, or_false, false_or, Bool.not_true, Bool.not_false])
local macro_rules | `(tactic| walk_at "nx") => `(tactic| (refine hold ?_; walk_at "rd"))

section
variable {P : Program} {w : World} {K : PySem.W.Frag} {mg : Str → Option Value} {base : Heap} {f : Addr} {fd : FuncData}
abbrev s_is_whole : Stmt := topS 8
theorem sc_is_whole : FnScope ["value", "least", "most"] ["value", "least", "most"] (defScope s_is_whole) := ⟨rfl, rfl, rfl, by decide +kernel, rfl, by decide +kernel, by decide +kernel⟩

def sp_is_whole (K : PySem.W.Frag) : Sp := fun vs H Q _ => ∃ (v : V) (d : PyData) (lo hi : Int), vs = [v, .int lo, .int hi] ∧ Dp K H v d ∧ Q (.bl (isWhole d lo hi)) H
theorem ok_is_whole (F : FnP K "is_whole" s_is_whole f fd) (z_type : mg "type" = none) (z_int : mg "int" = none) : FnOk P w K mg base CX0 1 f fd ["value", "least", "most"] (sp_is_whole K) := by
  refine F.ok sc_is_whole (fun vs H Q E h => ?_) (fun cdv A outer s H vs Q E hr h => ?_)
  · obtain ⟨_, _, _, _, rfl, _⟩ := h
    rfl
  · obtain ⟨v, d, lo, hi, rfl, hd, q⟩ := h
    refine ⟨_, PSs.nox (pss_one (ps_ret (pe_and (pe_cmpR op_eqTy (pe_callTy (typeK (K := K) rfl) (by rfl) z_type (by decide +kernel) (pa_cons (pv 0) pa_nil)) (pe_bltn (v := .ty "int") (u := .type "int") (by rfl) z_int (by decide +kernel) rfl) (nomark _)) (pe_one (pe_chain op_le op_le (pv 1) (pv 0) (pv 2)))))), ?_⟩
    walk_at "rd"
    refine ⟨v, d, rfl, hd, _, _, rfl, rfl, tyName_mem d, by decide, _, rfl, ?_⟩
    cases hd with
    | int i =>
      refine ite2 (fun _ => ?_) (fun z => absurd (decide_eq_true rfl) z)
      refine ⟨i, rfl, ?_⟩
      have e : isWhole (.int i) lo hi = (decide (lo ≤ i) && decide (i ≤ hi)) := rfl
      rw [e] at q
      by_cases c : lo ≤ i
      · rw [decide_eq_true c] at q
        rw [decide_eq_true c]
        exact iteT ⟨i, rfl, q⟩
      · rw [decide_eq_false c] at q
        rw [decide_eq_false c]
        exact iteF q
    | _ => exact iteF q
abbrev s_are_whole : Stmt := topS 9
theorem sc_are_whole : FnScope ["values", "least", "most", "value"] ["values", "least", "most"] (defScope s_are_whole) := ⟨rfl, rfl, rfl, by decide +kernel, rfl, by decide +kernel, by decide +kernel⟩

def sp_are_whole (K : PySem.W.Frag) : Sp := fun vs H Q _ => ∃ (a : Addr) (xs : List V) (ds : List PyData) (lo hi : Int), vs = [.ref a, .int lo, .int hi] ∧ (SqL K H a xs ∨ SqT K H a xs) ∧ DpAll K H xs ds ∧ ds.length ≤ 4001 ∧ ∀ H', Same H H' → Q (.bl (areWhole ds lo hi)) H'
theorem ok_are_whole (F : FnP K "are_whole" s_are_whole f fd) (c_is_whole : Cal P w K mg base CX0 1 "is_whole" ["value", "least", "most"] (sp_is_whole K)) (z_all : mg "all" = none) : FnOk P w K mg base CX0 2 f fd ["values", "least", "most"] (sp_are_whole K) := by
  refine F.ok sc_are_whole (fun vs H Q E h => ?_) (fun cdv A outer s H vs Q E hr h => ?_)
  · obtain ⟨_, _, _, _, _, rfl, _⟩ := h
    rfl
  · obtain ⟨a, xs, ds, lo, hi, rfl, hs, hd, hl, q⟩ := h
    rcases hs with hs | hs
    · refine ⟨_, PSs.nox (pss_one (ps_ret (pe_callB (allK (K := K) rfl rfl) (by rfl) z_all (by decide +kernel) (pa_cons (pe_lc (own := [("value", 3)]) (g := gName 3) rfl sc_are_whole.nd (pi_listK (K := K) rfl (pv 0)) (blkOk_by (own := [("value", 3)]) (N := ["values", "least", "most", "value"]) (sc := defScope s_are_whole) (by decide +kernel)) (fun _ _ _ _ _ => pg_name (i := 3) sc_are_whole.nd rfl (Or.inl rfl)) (fun _ _ _ _ _ => pts_nil) (fun _ _ _ _ _ => (pe_f c_is_whole (hr.mono (by decide)) (pa_cons (pv 3) (pa_cons (pv 1) (pa_cons (pv 2) pa_nil)))))) pa_nil)))), ?_⟩
      walk_at "rd"
      refine lc_dpL (fun _ => true) (fun n => .bool (isWhole (ds.getD n .none) lo hi)) (fun R h => ⟨_, rfl, h⟩) hs (by rw [dpa_len hd]; omega) (fun n x H' R _ _ k => yes_t k) (fun n x H' D R e _ hD _ sm k => ?_) (fun D acc H' hD sm e dp => ?_)
      · obtain ⟨d, ed, dx⟩ := dpa_get2 hd e
        walk_at "rd"
        refine ⟨x, d, lo, hi, rfl, dp_same sm _ _ dx, ?_⟩
        have z := k (.bl (isWhole d lo hi)) H' (Same.refl _) (by rw [getD_of ed]; exact .bl _)
        exact z
      · rw [dpa_len hd, filter_yes, range_get ds (fun d => PyData.bool (isWhole d lo hi)) PyData.none] at dp
        have ea : acc = (ds.map fun d => isWhole d lo hi).map V.bl := dpa_bools (by rw [List.map_map]; exact dp)
        refine ⟨D, ds.map fun d => isWhole d lo hi, rfl, .inl (.inl (by rw [e, ea])), ?_⟩
        have ez : (ds.map fun d => isWhole d lo hi).all id = areWhole ds lo hi := by
          unfold areWhole
          rw [List.all_map]
          rfl
        rw [ez]
        exact q H' sm
    · refine ⟨_, PSs.nox (pss_one (ps_ret (pe_callB (allK (K := K) rfl rfl) (by rfl) z_all (by decide +kernel) (pa_cons (pe_lc (own := [("value", 3)]) (g := gName 3) rfl sc_are_whole.nd (pi_tupK (K := K) rfl (pv 0)) (blkOk_by (own := [("value", 3)]) (N := ["values", "least", "most", "value"]) (sc := defScope s_are_whole) (by decide +kernel)) (fun _ _ _ _ _ => pg_name (i := 3) sc_are_whole.nd rfl (Or.inl rfl)) (fun _ _ _ _ _ => pts_nil) (fun _ _ _ _ _ => (pe_f c_is_whole (hr.mono (by decide)) (pa_cons (pv 3) (pa_cons (pv 1) (pa_cons (pv 2) pa_nil)))))) pa_nil)))), ?_⟩
      walk_at "rd"
      refine lc_dpT (fun _ => true) (fun n => .bool (isWhole (ds.getD n .none) lo hi)) (fun R h => ⟨_, rfl, h⟩) hs (by rw [dpa_len hd]; omega) (fun n x H' R _ _ k => yes_t k) (fun n x H' D R e _ hD _ sm k => ?_) (fun D acc H' hD sm e dp => ?_)
      · obtain ⟨d, ed, dx⟩ := dpa_get2 hd e
        walk_at "rd"
        refine ⟨x, d, lo, hi, rfl, dp_same sm _ _ dx, ?_⟩
        have z := k (.bl (isWhole d lo hi)) H' (Same.refl _) (by rw [getD_of ed]; exact .bl _)
        exact z
      · rw [dpa_len hd, filter_yes, range_get ds (fun d => PyData.bool (isWhole d lo hi)) PyData.none] at dp
        have ea : acc = (ds.map fun d => isWhole d lo hi).map V.bl := dpa_bools (by rw [List.map_map]; exact dp)
        refine ⟨D, ds.map fun d => isWhole d lo hi, rfl, .inl (.inl (by rw [e, ea])), ?_⟩
        have ez : (ds.map fun d => isWhole d lo hi).all id = areWhole ds lo hi := by
          unfold areWhole
          rw [List.all_map]
          rfl
        rw [ez]
        exact q H' sm

abbrev s_is_whole_list : Stmt := topS 10
theorem sc_is_whole_list : FnScope ["values", "longest", "least", "most"] ["values", "longest", "least", "most"] (defScope s_is_whole_list) := ⟨rfl, rfl, rfl, by decide +kernel, rfl, by decide +kernel, by decide +kernel⟩

def sp_is_whole_list (K : PySem.W.Frag) : Sp := fun vs H Q _ => ∃ (v : V) (d : PyData) (n : Nat) (lo hi : Int), vs = [v, .int n, .int lo, .int hi] ∧ n ≤ 4000 ∧ Dp K H v d ∧ ∀ H', Same H H' → Q (.bl (isWholeList d n lo hi)) H'
theorem ok_is_whole_list (F : FnP K "is_whole_list" s_is_whole_list f fd) (c_are_whole : Cal P w K mg base CX0 2 "are_whole" ["values", "least", "most"] (sp_are_whole K)) (z_type : mg "type" = none) (z_list : mg "list" = none) (z_len : mg "len" = none) :
    FnOk P w K mg base CX0 3 f fd ["values", "longest", "least", "most"] (sp_is_whole_list K) := by
  refine F.ok sc_is_whole_list (fun vs H Q E h => ?_) (fun cdv A outer s H vs Q E hr h => ?_)
  · obtain ⟨_, _, _, _, _, rfl, _⟩ := h
    rfl
  · obtain ⟨v, d, n, lo, hi, rfl, hn, hd, q⟩ := h
    refine ⟨_, PSs.nox (pss_cons (ps_if (PW.pt (pw_or (pt_cmpR op_neTy (pe_callTy (typeK (K := K) rfl) (by rfl) z_type (by decide +kernel) (pa_cons (pv 0) pa_nil)) (pe_bltn (v := .ty "list") (u := .type "list") (by rfl) z_list (by decide +kernel) rfl) (nomark _)) (pw_or1 (pt_cmpR op_gt (pe_callB (lenK (K := K) rfl) (by rfl) z_len (by decide +kernel) (pa_cons (pv 0) pa_nil)) (pv 1) (nomark _))))) (pss_one (ps_ret pe_bl)) pss_nil)
      (pss_one (ps_ret (pe_f c_are_whole (hr.mono (by decide)) (pa_cons (pv 0) (pa_cons (pv 2) (pa_cons (pv 3) pa_nil))))))), ?_⟩
    walk_at "rd"
    refine ⟨v, d, rfl, hd, _, _, rfl, rfl, tyName_mem d, by decide, _, rfl, ?_⟩
    cases hd with
    | lst hs ha =>
      rename_i a xs ds
      refine iteF ?_
      have hlen := dpa_len ha
      refine ⟨a, rfl, xs, .inl hs, ?_⟩
      refine ite2 (fun c => ?_) (fun c => ?_)
      · have c2 := of_decide_eq_true c
        have e : isWholeList (.list ds) n lo hi = false := by
          show (decide (ds.length ≤ n) && areWhole ds lo hi) = false
          rw [decide_eq_false (by omega)]
          rfl
        rw [e] at q
        exact q _ (Same.refl _)
      · have c2 : ¬ (n : Int) < xs.length := fun z => c (decide_eq_true z)
        have e : isWholeList (.list ds) n lo hi = areWhole ds lo hi := by
          show (decide (ds.length ≤ n) && areWhole ds lo hi) = areWhole ds lo hi
          rw [decide_eq_true (by omega)]
          rfl
        rw [e] at q
        exact ⟨a, xs, ds, lo, hi, rfl, .inl hs, ha, by omega, q⟩
    | _ => exact iteT (q _ (Same.refl _))
end

section
variable {P : Program} {w : World} {K : PySem.W.Frag} {mg : Str → Option Value} {base : Heap} {f : Addr} {fd : FuncData}
abbrev s_need_plan : Stmt := topS 17
theorem sc_need_plan : FnScope ["plan", "counts", "gain"] ["plan"] (defScope s_need_plan) := ⟨rfl, rfl, rfl, by decide +kernel, rfl, by decide +kernel, by decide +kernel⟩

def needPlanF : List PyData → Except Err PyData
  | [d] => if isPlan d then .ok .none else .error .plan
  | _ => .ok .none
abbrev sp_need_plan (K : PySem.W.Frag) : Sp := PSpX K 1 needPlanF
theorem len1 {K : PySem.W.Frag} {n : Nat} {g : List PyData → Except Err PyData} {vs : List V} {H : Hp} {Q : VK} {E : XK} (h : PSpX K n g vs H Q E) : vs.length = n := by
  obtain ⟨ds, hd, hl, _⟩ := h
  rw [dpa_len hd, hl]
/-- the refusal, at a heap that keeps what stood -/
theorem no_plan {K : PySem.W.Frag} {d : PyData} {E : XK} {H : Hp} (h : isPlan d = false) (kE : ∀ e, needPlanF [d] = .error e → ∀ H', Same H H' → E (.ref (errC K e)) none H') {H' : Hp} (s : Same H H') : E (.ref (errC K .plan)) none H' :=
  kE .plan (if_neg (by rw [h]; exact Bool.false_ne_true)) H' s
theorem ok_need_plan (F : FnP K "need_plan" s_need_plan f fd) (c_is_whole : Cal P w K mg base CX0 1 "is_whole" ["value", "least", "most"] (sp_is_whole K)) (c_are_whole : Cal P w K mg base CX0 2 "are_whole" ["values", "least", "most"] (sp_are_whole K))
    (x_BadPlan : Exn K mg .plan) (z_type : mg "type" = none) (z_tuple : mg "tuple" = none) (z_len : mg "len" = none) {u1 u2 u3 u4 : Tok} (g_FEWEST_COUNTS : mg "FEWEST_COUNTS" = some (.int 2 u1)) (g_MOST_COUNTS : mg "MOST_COUNTS" = some (.int 8 u2)) (g_GREATEST_COUNT : mg "GREATEST_COUNT" = some (.int 1000000 u3)) (g_GREATEST_GAIN : mg "GREATEST_GAIN" = some (.int 1000000 u4)) :
    FnOk P w K mg base (L2N.CX P w) 3 f fd ["plan"] (sp_need_plan K) := by
  refine F.ok sc_need_plan (fun vs H Q E h => len1 h) (fun cdv A outer s H vs Q E hr h => ?_)
  obtain ⟨ds, hds, hl, kQ, kE⟩ := h
  obtain ⟨d, rfl⟩ : ∃ d, ds = [d] := match ds, hl with | [d], _ => ⟨d, rfl⟩
  cases hds with
  | cons hd hn =>
  cases hn
  rename_i v
  refine ⟨_, (pss_cons (ps_if (PW.pt (pw_or (pt_cmpR op_neTy (pe_callTy (typeK (K := K) rfl) (by rfl) z_type (by decide +kernel) (pa_cons (pv 0) pa_nil)) (pe_bltn (v := .ty "tuple") (u := .type "tuple") (by rfl) z_tuple (by decide +kernel) rfl) (nomark _)) (pw_or1 (pt_cmpR op_ne (pe_callB (lenK (K := K) rfl) (by rfl) z_len (by decide +kernel) (pa_cons (pv 0) pa_nil)) pe_int (nomark _))))) (pss_one (L2N.ps_raise rfl (L2N.takes_of rfl rfl rfl rfl) (L2N.pmk_own PySem.F.excBase_ValueError x_BadPlan.x x_BadPlan.g x_BadPlan.k (raises_own x_BadPlan.b x_BadPlan.t) rfl))) pss_nil)
      (pss_cons (ps_asg (pv 0) (pg_tupK (K := K) (n := 2) rfl rfl (pgs_cons (pg_name (i := 1) sc_need_plan.nd rfl (.inl rfl)) (pgs_cons (pg_name (i := 2) sc_need_plan.nd rfl (.inl rfl)) pgs_nil))))
      (pss_cons (ps_if (pt_cmpR op_neTy (pe_callTy (typeK (K := K) rfl) (by rfl) z_type (by decide +kernel) (pa_cons (pv 1) pa_nil)) (pe_bltn (v := .ty "tuple") (u := .type "tuple") (by rfl) z_tuple (by decide +kernel) rfl) (nomark _)) (pss_one (L2N.ps_raise rfl (L2N.takes_of rfl rfl rfl rfl) (L2N.pmk_own PySem.F.excBase_ValueError x_BadPlan.x x_BadPlan.g x_BadPlan.k (raises_own x_BadPlan.b x_BadPlan.t) rfl))) pss_nil)
      (pss_cons (ps_if (pt_not (pt_chain op_le op_le (pe_glob (v := .int 2) rfl g_FEWEST_COUNTS ⟨_, rfl⟩) (pe_callB (lenK (K := K) rfl) (by rfl) z_len (by decide +kernel) (pa_cons (pv 1) pa_nil)) (pe_glob (v := .int 8) rfl g_MOST_COUNTS ⟨_, rfl⟩))) (pss_one (L2N.ps_raise rfl (L2N.takes_of rfl rfl rfl rfl) (L2N.pmk_own PySem.F.excBase_ValueError x_BadPlan.x x_BadPlan.g x_BadPlan.k (raises_own x_BadPlan.b x_BadPlan.t) rfl))) pss_nil)
      (pss_cons (ps_if (pt_not (pt_val (pe_f c_are_whole (hr.mono (by decide)) (pa_cons (pv 1) (pa_cons pe_int (pa_cons (pe_glob (v := .int 1000000) rfl g_GREATEST_COUNT ⟨_, rfl⟩) pa_nil)))))) (pss_one (L2N.ps_raise rfl (L2N.takes_of rfl rfl rfl rfl) (L2N.pmk_own PySem.F.excBase_ValueError x_BadPlan.x x_BadPlan.g x_BadPlan.k (raises_own x_BadPlan.b x_BadPlan.t) rfl))) pss_nil)
      (pss_one (ps_if (pt_not (pt_val (pe_f c_is_whole (hr.mono (by decide)) (pa_cons (pv 2) (pa_cons pe_int (pa_cons (pe_glob (v := .int 1000000) rfl g_GREATEST_GAIN ⟨_, rfl⟩) pa_nil)))))) (pss_one (L2N.ps_raise rfl (L2N.takes_of rfl rfl rfl rfl) (L2N.pmk_own PySem.F.excBase_ValueError x_BadPlan.x x_BadPlan.g x_BadPlan.k (raises_own x_BadPlan.b x_BadPlan.t) rfl))) pss_nil))))))), ?_⟩
  walk_at "rd"
  refine ⟨v, d, rfl, hd, _, _, rfl, rfl, tyName_mem d, by decide, _, rfl, ?_⟩
  cases hd with
  | tup hs ha =>
    rename_i a xs ds
    refine iteF ⟨a, rfl, xs, .inr hs, ite2 (fun c => ?_) (fun c => ?_)⟩
    · have hx : ds.length ≠ 2 := fun z => by
        rw [dpa_len ha, z] at c
        exact absurd c (by decide)
      refine no_plan ?_ kE (Same.refl _)
      match ds, hx with
      | [], _ => rfl
      | [_], _ => rfl
      | [_, _], z => exact absurd rfl z
      | _ :: _ :: _ :: _, _ => rfl
    · have hx : ds.length = 2 := by
        rw [dpa_len ha] at c
        simp only [Bool.not_eq_true', decide_eq_false_iff_not, Decidable.not_not] at c
        exact_mod_cast c
      obtain ⟨dc, dg, rfl⟩ : ∃ dc dg, ds = [dc, dg] := match ds, hx with | [dc, dg], _ => ⟨dc, dg, rfl⟩
      cases ha with
      | cons hc hg =>
      cases hg with
      | cons hg hn =>
      cases hn
      rename_i vc vg
      refine ⟨a, rfl, _, hs, rfl, vc, _, rfl, vg, [], rfl, rfl, ?_⟩
      refine ⟨vc, dc, rfl, hc, _, _, rfl, rfl, tyName_mem dc, by decide, _, rfl, ?_⟩
      cases hc with
      | tup hcs hca =>
        rename_i ac cvs cds
        have hlc := dpa_len hca
        refine iteF ⟨ac, rfl, cvs, .inr hcs, ?_⟩
        have hb : isPlan (.tuple [.tuple cds, dg]) = (decide (2 ≤ cds.length) && decide (cds.length ≤ 8) && areWhole cds 1 1000000 && isWhole dg 0 1000000) := rfl
        refine ite2 (fun c2 => ?_) (fun c2 => ?_)
        · refine ite2 (fun c8 => ?_) (fun c8 => ?_)
          · refine no_plan ?_ kE (Same.refl _)
            simp only [Bool.not_eq_true', decide_eq_false_iff_not] at c8
            rw [hb, decide_eq_false (show ¬ cds.length ≤ 8 by omega), Bool.and_false]
            rfl
          · simp only [Bool.not_eq_true', decide_eq_false_iff_not, Decidable.not_not] at c8
            simp only [decide_eq_true_eq] at c2
            rw [decide_eq_true (show 2 ≤ cds.length by omega), decide_eq_true (show cds.length ≤ 8 by omega)] at hb
            refine ⟨ac, cvs, cds, 1, 1000000, rfl, .inr hcs, hca, by omega, fun H1 s1 => ⟨_, rfl, ?_⟩⟩
            cases ew : areWhole cds 1 1000000 with
            | false =>
              rw [ew] at hb
              exact iteT (no_plan hb kE s1)
            | true =>
              rw [ew] at hb
              refine iteF ⟨vg, dg, 0, 1000000, rfl, dp_same s1 _ _ hg, _, rfl, ?_⟩
              cases eg : isWhole dg 0 1000000 with
              | false =>
                rw [eg] at hb
                exact iteT (no_plan hb kE s1)
              | true =>
                rw [eg] at hb
                exact iteF (kQ .none (if_pos hb) .non H1 s1 .non)
        · refine no_plan ?_ kE (Same.refl _)
          simp only [decide_eq_true_eq] at c2
          rw [hb, decide_eq_false (show ¬ 2 ≤ cds.length by omega)]
          rfl
      | _ => exact iteT (no_plan rfl kE (Same.refl _))
  | _ => exact iteT (no_plan rfl kE (Same.refl _))
abbrev s__last_sign : Stmt := topS 22
theorem sc__last_sign : FnScope ["plan"] ["plan"] (defScope s__last_sign) := ⟨rfl, rfl, rfl, by decide +kernel, rfl, by decide +kernel, by decide +kernel⟩

def sp_last_sign (K : PySem.W.Frag) : Sp := fun vs H Q _ => ∃ (v : V) (cs : List Int) (g : Int), vs = [v] ∧ Dp K H v (planD cs g) ∧ Q (.int ((cs.length : Int) - 1)) H
theorem ok_last_sign (F : FnP K "_last_sign" s__last_sign f fd) (z_len : mg "len" = none) : FnOk P w K mg base CX0 1 f fd ["plan"] (sp_last_sign K) := by
  refine F.ok sc__last_sign (fun vs H Q E h => ?_) (fun cdv A outer s H vs Q E hr h => ?_)
  · obtain ⟨_, _, _, rfl, _⟩ := h
    rfl
  · obtain ⟨v, cs, g, rfl, hd, q⟩ := h
    refine ⟨_, PSs.nox (pss_one (ps_ret (pe_op op_sub (pe_callB (lenK (K := K) rfl) (by rfl) z_len (by decide +kernel) (pa_cons (pe_ix (ix_tupK (K := K) rfl) (pv 0) pe_int (fun _ _ => rfl)) pa_nil)) pe_int))), ?_⟩
    walk_at "rd"
    obtain ⟨a, c, rfl, h1, h2⟩ := plan_at hd
    refine ⟨a, _, 0, .ref c, rfl, rfl, h1, rfl, c, rfl, _, .inr h2, ?_⟩
    rw [List.length_map]
    exact q
theorem needPlan_yes {d dn : PyData} (e : needPlanF [d] = .ok dn) : isPlan d = true := by
  cases h : isPlan d with
  | true => rfl
  | false =>
    have z : (if isPlan d = true then Except.ok PyData.none else Except.error Err.plan : Except Err PyData) = .ok dn := e
    rw [if_neg (by rw [h]; exact Bool.false_ne_true)] at z
    cases z
theorem needPlan_no {d : PyData} {er : Err} (e : needPlanF [d] = .error er) : er = .plan ∧ isPlan d = false := by
  have z : (if isPlan d = true then Except.ok PyData.none else Except.error Err.plan : Except Err PyData) = .error er := e
  cases h : isPlan d with
  | true =>
    rw [if_pos h] at z
    cases z
  | false =>
    rw [if_neg (by rw [h]; exact Bool.false_ne_true)] at z
    cases z
    exact ⟨rfl, rfl⟩
abbrev s__need_sign : Stmt := topS 21
theorem sc__need_sign : FnScope ["plan", "sign"] ["plan", "sign"] (defScope s__need_sign) := ⟨rfl, rfl, rfl, by decide +kernel, rfl, by decide +kernel, by decide +kernel⟩

/-- a sign of the plan, asked behind the plan itself -/
def signF (g : List Int → Int → Int → PyData) : List PyData → Except Err PyData
  | [d, x] => if isPlan d then (if isWhole x 0 (((countsOf d).length : Int) - 1) then .ok (g (countsOf d) (gainOf d) (toI x)) else .error .sign) else .error .plan
  | _ => .ok .none
theorem sign_noplan {k : List Int → Int → Int → PyData} {d x : PyData} (h : isPlan d = false) : signF k [d, x] = .error .plan := if_neg (by rw [h]; exact Bool.false_ne_true)
theorem sign_no {k : List Int → Int → Int → PyData} {cs : List Int} {g : Int} {x : PyData} (p : Plan cs g) (h : isWhole x 0 ((cs.length : Int) - 1) = false) : signF k [planD cs g, x] = .error .sign := by
  show (if isPlan (planD cs g) = true then _ else _) = _
  rw [if_pos (isPlan_of p), counts_planD, if_neg (by rw [h]; exact Bool.false_ne_true)]
theorem sign_yes {k : List Int → Int → Int → PyData} {cs : List Int} {g : Int} {x : PyData} (p : Plan cs g) (h : isWhole x 0 ((cs.length : Int) - 1) = true) : signF k [planD cs g, x] = .ok (k cs g (toI x)) := by
  show (if isPlan (planD cs g) = true then _ else _) = _
  rw [if_pos (isPlan_of p), counts_planD, if_pos h, gain_planD]
theorem sign_plan {k : List Int → Int → Int → PyData} {d x r : PyData} (e : signF k [d, x] = .ok r) : ∃ cs g s, d = planD cs g ∧ Plan cs g ∧ x = .int s ∧ 0 ≤ s ∧ s < cs.length ∧ r = k cs g s := by
  cases h : isPlan d with
  | false =>
    rw [sign_noplan h] at e
    cases e
  | true =>
    obtain ⟨cs, g, rfl, pl⟩ := isPlan_ok h
    cases hx : isWhole x 0 ((cs.length : Int) - 1) with
    | false =>
      rw [sign_no pl hx] at e
      cases e
    | true =>
      rw [sign_yes pl hx] at e
      cases e
      obtain ⟨i, rfl, a, b⟩ := isWhole_ok hx
      exact ⟨cs, g, i, rfl, pl, rfl, a, by omega, rfl⟩
theorem sign_err {k k' : List Int → Int → Int → PyData} {d x : PyData} {er : Err} (e : signF k [d, x] = .error er) : signF k' [d, x] = .error er := by
  cases h : isPlan d with
  | false =>
    rw [sign_noplan h] at e ⊢
    exact e
  | true =>
    obtain ⟨cs, g, rfl, pl⟩ := isPlan_ok h
    cases hx : isWhole x 0 ((cs.length : Int) - 1) with
    | false =>
      rw [sign_no pl hx] at e ⊢
      exact e
    | true =>
      rw [sign_yes pl hx] at e
      cases e
abbrev sp_need_sign (K : PySem.W.Frag) : Sp := PSpX K 2 (signF fun _ _ _ => .none)
theorem ok_need_sign (F : FnP K "_need_sign" s__need_sign f fd) (c_need_plan : Cal P w K mg base (L2N.CX P w) 3 "need_plan" ["plan"] (sp_need_plan K)) (c_is_whole : Cal P w K mg base CX0 1 "is_whole" ["value", "least", "most"] (sp_is_whole K))
    (c__last_sign : Cal P w K mg base CX0 1 "_last_sign" ["plan"] (sp_last_sign K)) (x_BadSign : Exn K mg .sign) : FnOk P w K mg base (L2N.CX P w) 4 f fd ["plan", "sign"] (sp_need_sign K) := by
  refine F.ok sc__need_sign (fun vs H Q E h => len1 h) (fun cdv A outer s H vs Q E hr h => ?_)
  obtain ⟨ds, hds, hl, kQ, kE⟩ := h
  obtain ⟨d, x, rfl⟩ : ∃ d x, ds = [d, x] := match ds, hl with | [d, x], _ => ⟨d, x, rfl⟩
  cases hds with
  | cons hd hn =>
  cases hn with
  | cons hx hn =>
  cases hn
  rename_i v u
  refine ⟨_, (pss_cons (ps_expr (pe_fX c_need_plan (hr.mono (by decide)) (L2N.takes_of rfl rfl rfl rfl) (pa_cons (pv 0) pa_nil)))
      (pss_one (ps_if (pt_not (pt_val (pe_f c_is_whole (hr.mono (by decide)) (pa_cons (pv 1) (pa_cons pe_int (pa_cons (pe_f c__last_sign (hr.mono (by decide)) (pa_cons (pv 0) pa_nil)) pa_nil)))))) (pss_one (L2N.ps_raise rfl (L2N.takes_of rfl rfl rfl rfl) (L2N.pmk_own PySem.F.excBase_ValueError x_BadSign.x x_BadSign.g x_BadSign.k (raises_own x_BadSign.b x_BadSign.t) rfl))) pss_nil))), ?_⟩
  walk_at "rd"
  refine ⟨[d], .cons hd .nil, rfl, fun dn e v' H1 s1 _ => ?_, fun e he H1 s1 => ?_⟩
  · obtain ⟨cs, g, rfl, pl⟩ := isPlan_ok (needPlan_yes e)
    refine ⟨v, cs, g, rfl, dp_same s1 _ _ hd, u, x, 0, _, rfl, dp_same s1 _ _ hx, _, rfl, ?_⟩
    cases ew : isWhole x 0 ((cs.length : Int) - 1) with
    | false => exact iteT (kE .sign (sign_no pl ew) H1 s1)
    | true => exact iteF (kQ _ (sign_yes pl ew) .non H1 s1 .non)
  · obtain ⟨rfl, hp⟩ := needPlan_no he
    exact kE .plan (sign_noplan hp) H1 s1
abbrev s_share : Stmt := topS 19
theorem sc_share : FnScope ["plan", "sign", "counts"] ["plan", "sign"] (defScope s_share) := ⟨rfl, rfl, rfl, by decide +kernel, rfl, by decide +kernel, by decide +kernel⟩

def shareD (cs : List Int) (_ s : Int) : PyData := .tuple [.int (belowOf cs s), .int (nth cs s), .int cs.sum]
abbrev sp_share (K : PySem.W.Frag) : Sp := PSpX K 2 (signF shareD)
theorem ok_share (F : FnP K "share" s_share f fd) (c__need_sign : Cal P w K mg base (L2N.CX P w) 4 "_need_sign" ["plan", "sign"] (sp_need_sign K)) (z_sum : mg "sum" = none) : FnOk P w K mg base (L2N.CX P w) 5 f fd ["plan", "sign"] (sp_share K) := by
  refine F.ok sc_share (fun vs H Q E h => len1 h) (fun cdv A outer s H vs Q E hr h => ?_)
  obtain ⟨ds, hds, hl, kQ, kE⟩ := h
  obtain ⟨d, x, rfl⟩ : ∃ d x, ds = [d, x] := match ds, hl with | [d, x], _ => ⟨d, x, rfl⟩
  cases hds with
  | cons hd hn =>
  cases hn with
  | cons hx hn =>
  cases hn
  rename_i v u
  refine ⟨_, (pss_cons (ps_expr (pe_fX c__need_sign (hr.mono (by decide)) (L2N.takes_of rfl rfl rfl rfl) (pa_cons (pv 0) (pa_cons (pv 1) pa_nil))))
      (pss_cons (ps_set (i := 2) sc_share.nd rfl (Or.inl rfl) (pe_ix (ix_tupK (K := K) rfl) (pv 0) pe_int (fun _ _ => rfl)))
      (pss_one (ps_ret (pe_tup (pa_cons (pe_callB (sumTK (K := K) rfl rfl) (by rfl) z_sum (by decide +kernel) (pa_cons (pe_slice (sl_tupK (K := K) rfl) (pv 2) po_none (po_some (pv 1))) pa_nil)) (pa_cons (pe_ix (ix_tupK (K := K) rfl) (pv 2) (pv 1) (fun _ _ => rfl)) (pa_cons (pe_callB (sumTK (K := K) rfl rfl) (by rfl) z_sum (by decide +kernel) (pa_cons (pv 2) pa_nil)) pa_nil)))))))), ?_⟩
  walk_at "rd"
  refine ⟨[d, x], .cons hd (.cons hx .nil), rfl, fun dn e v' H1 s1 _ => ?_, fun e he H1 s1 => kE e (sign_err he) H1 s1⟩
  obtain ⟨cs, g, s, rfl, pl, rfl, h0, h1, rfl⟩ := sign_plan e
  cases dp_int hx
  obtain ⟨a, c, rfl, ha, hc⟩ := plan_at (dp_same s1 _ _ hd)
  refine ⟨a, _, 0, .ref c, rfl, rfl, ha, rfl, s, rfl, slT_take hc h0 (by rw [List.length_map]; omega) fun p H2 s2 h2 => ?_⟩
  rw [← List.map_take] at h2
  refine ⟨p, cs.take s.toNat, rfl, h2, c, _, s, _, rfl, rfl, same_t s2 hc, at_nth h0 h1, c, cs, rfl, same_t s2 hc, by decide, fun t ht => ?_⟩
  refine kQ _ (sign_yes pl (by rw [isWhole_int, decide_eq_true h0, decide_eq_true (by omega)]; rfl)) _ _ ((s1.trans s2).trans (same_upd ht)) ?_
  exact .tup (.inl (.inl upd_same)) (.cons (.int _) (.cons (.int _) (.cons (.int _) .nil)))
abbrev s_behind : Stmt := topS 20
theorem sc_behind : FnScope ["plan", "sign", "counts", "gain", "grown"] ["plan", "sign"] (defScope s_behind) := ⟨rfl, rfl, rfl, by decide +kernel, rfl, by decide +kernel, by decide +kernel⟩

def behindD (cs : List Int) (g s : Int) : PyData := planD (grown cs g s) g
theorem grown_eq {cs : List Int} {g s : Int} (h0 : 0 ≤ s) (h1 : s < cs.length) : grown cs g s = cs.take s.toNat ++ [min (nth cs s + g) 1000000] ++ cs.drop (s + 1).toNat := by
  have h : s.toNat < cs.length := by omega
  unfold grown
  rw [List.set_eq_take_append_cons_drop, if_pos h, List.append_assoc]
  rw [show (s + 1).toNat = s.toNat + 1 by omega]
  rfl
abbrev sp_behind (K : PySem.W.Frag) : Sp := PSpX K 2 (signF behindD)
theorem ok_behind (F : FnP K "behind" s_behind f fd) (c__need_sign : Cal P w K mg base (L2N.CX P w) 4 "_need_sign" ["plan", "sign"] (sp_need_sign K)) (z_min : mg "min" = none) {u3 : Tok} (g_GREATEST_COUNT : mg "GREATEST_COUNT" = some (.int 1000000 u3)) : FnOk P w K mg base (L2N.CX P w) 5 f fd ["plan", "sign"] (sp_behind K) := by
  refine F.ok sc_behind (fun vs H Q E h => len1 h) (fun cdv A outer s H vs Q E hr h => ?_)
  obtain ⟨ds, hds, hl, kQ, kE⟩ := h
  obtain ⟨d, x, rfl⟩ : ∃ d x, ds = [d, x] := match ds, hl with | [d, x], _ => ⟨d, x, rfl⟩
  cases hds with
  | cons hd hn =>
  cases hn with
  | cons hx hn =>
  cases hn
  rename_i v u
  refine ⟨_, (pss_cons (ps_expr (pe_fX c__need_sign (hr.mono (by decide)) (L2N.takes_of rfl rfl rfl rfl) (pa_cons (pv 0) (pa_cons (pv 1) pa_nil))))
      (pss_cons (ps_asg (pv 0) (pg_tupK (K := K) (n := 2) rfl rfl (pgs_cons (pg_name (i := 2) sc_behind.nd rfl (.inl rfl)) (pgs_cons (pg_name (i := 3) sc_behind.nd rfl (.inl rfl)) pgs_nil))))
      (pss_cons (ps_set (i := 4) sc_behind.nd rfl (Or.inl rfl) (pe_callB (call_min2 rfl) (by rfl) z_min (by decide +kernel) (pa_cons (pe_op op_add (pe_ix (ix_tupK (K := K) rfl) (pv 2) (pv 1) (fun _ _ => rfl)) (pv 3)) (pa_cons (pe_glob (v := .int 1000000) rfl g_GREATEST_COUNT ⟨_, rfl⟩) pa_nil))))
      (pss_one (ps_ret (pe_tup (pa_cons (pe_op (op_catK (K := K) rfl) (pe_op (op_catK (K := K) rfl) (pe_slice (sl_tupK (K := K) rfl) (pv 2) po_none (po_some (pv 1))) (pe_tup (pa_cons (pv 4) pa_nil))) (pe_slice (sl_tupK (K := K) rfl) (pv 2) (po_some (pe_op op_add (pv 1) pe_int)) po_none)) (pa_cons (pv 3) pa_nil)))))))), ?_⟩
  walk_at "rd"
  refine ⟨[d, x], .cons hd (.cons hx .nil), rfl, fun dn e v' H1 s1 _ => ?_, fun e he H1 s1 => kE e (sign_err he) H1 s1⟩
  obtain ⟨cs, g, s, rfl, pl, rfl, h0, h1, rfl⟩ := sign_plan e
  cases dp_int hx
  obtain ⟨a, c, rfl, ha, hc⟩ := plan_at (dp_same s1 _ _ hd)
  refine ⟨a, rfl, _, ha, rfl, .ref c, _, rfl, .int g, [], rfl, rfl, ?_⟩
  refine ⟨c, _, s, _, rfl, rfl, hc, at_nth h0 h1, _, rfl, g, rfl, s, rfl, ?_⟩
  have em : (if (1000000 : Int) < nth cs s + g then (1000000 : Int) else nth cs s + g) = min (nth cs s + g) 1000000 := by
    by_cases z : (1000000 : Int) < nth cs s + g
    · rw [if_pos z]; omega
    · rw [if_neg z]; omega
  rw [em]
  have hl0 : (cs.map V.int).length = cs.length := List.length_map ..
  have l8 := pl.eight
  refine slT_take hc h0 (by rw [hl0]; omega) fun p1 H2 s2 h2 => ?_
  refine ⟨by decide, fun p2 n2 => ?_⟩
  refine catT (same_t (same_upd n2) h2) (.inl (.inl upd_same)) (by rw [List.length_take]; show _ + 1 ≤ 100000; omega) fun p3 H3 s3 h3 => ?_
  refine ⟨_, rfl, slT_drop (same_t ((s2.trans (same_upd n2)).trans s3) hc) (by omega) (by rw [hl0]; omega) fun p4 H4 s4 h4 => ?_⟩
  refine catT (same_t s4 h3) h4 (by rw [List.length_append, List.length_take, List.length_drop]; show _ + 1 + _ ≤ 100000; omega) fun p5 H5 s5 h5 => ?_
  refine ⟨by decide, fun t ht => ?_⟩
  have sm : Same H1 H5 := (((s2.trans (same_upd n2)).trans s3).trans s4).trans s5
  have e5 : List.take s.toNat (cs.map V.int) ++ [V.int (min (nth cs s + g) 1000000)] ++ List.drop (s + 1).toNat (cs.map V.int) = (grown cs g s).map V.int := by
    rw [grown_eq h0 h1, List.map_append, List.map_append, List.map_take, List.map_drop]
    rfl
  rw [e5] at h5
  refine kQ _ (sign_yes pl (by rw [isWhole_int, decide_eq_true h0, decide_eq_true (by omega)]; rfl)) _ _ ((s1.trans sm).trans (same_upd ht)) ?_
  exact plan_dp (.inl (.inl upd_same)) (same_t (same_upd ht) h5)
abbrev s_need_signs : Stmt := topS 18
theorem sc_need_signs : FnScope ["plan", "signs"] ["plan", "signs"] (defScope s_need_signs) := ⟨rfl, rfl, rfl, by decide +kernel, rfl, by decide +kernel, by decide +kernel⟩

def needSignsF : List PyData → Except Err PyData
  | [d, x] => if isPlan d then (if isWholeList x 60 0 (((countsOf d).length : Int) - 1) then .ok .none else .error .sign) else .error .plan
  | _ => .ok .none
abbrev sp_need_signs (K : PySem.W.Frag) : Sp := PSpX K 2 needSignsF
theorem signs_noplan {d x : PyData} (h : isPlan d = false) : needSignsF [d, x] = .error .plan := if_neg (by rw [h]; exact Bool.false_ne_true)
theorem signs_no {cs : List Int} {g : Int} {x : PyData} (p : Plan cs g) (h : isWholeList x 60 0 ((cs.length : Int) - 1) = false) : needSignsF [planD cs g, x] = .error .sign := by
  show (if isPlan (planD cs g) = true then _ else _) = _
  rw [if_pos (isPlan_of p), counts_planD, if_neg (by rw [h]; exact Bool.false_ne_true)]
theorem signs_yes {cs : List Int} {g : Int} {x : PyData} (p : Plan cs g) (h : isWholeList x 60 0 ((cs.length : Int) - 1) = true) : needSignsF [planD cs g, x] = .ok .none := by
  show (if isPlan (planD cs g) = true then _ else _) = _
  rw [if_pos (isPlan_of p), counts_planD, if_pos h]
theorem ok_need_signs (F : FnP K "need_signs" s_need_signs f fd) (c_need_plan : Cal P w K mg base (L2N.CX P w) 3 "need_plan" ["plan"] (sp_need_plan K))
    (c_is_whole_list : Cal P w K mg base CX0 3 "is_whole_list" ["values", "longest", "least", "most"] (sp_is_whole_list K)) (c__last_sign : Cal P w K mg base CX0 1 "_last_sign" ["plan"] (sp_last_sign K)) (x_BadSign : Exn K mg .sign)
    {u4 : Tok} (g_LONGEST_TEXT : mg "LONGEST_TEXT" = some (.int 60 u4)) : FnOk P w K mg base (L2N.CX P w) 4 f fd ["plan", "signs"] (sp_need_signs K) := by
  refine F.ok sc_need_signs (fun vs H Q E h => len1 h) (fun cdv A outer s H vs Q E hr h => ?_)
  obtain ⟨ds, hds, hl, kQ, kE⟩ := h
  obtain ⟨d, x, rfl⟩ : ∃ d x, ds = [d, x] := match ds, hl with | [d, x], _ => ⟨d, x, rfl⟩
  cases hds with
  | cons hd hn =>
  cases hn with
  | cons hx hn =>
  cases hn
  rename_i v u
  refine ⟨_, (pss_cons (ps_expr (pe_fX c_need_plan (hr.mono (by decide)) (L2N.takes_of rfl rfl rfl rfl) (pa_cons (pv 0) pa_nil)))
      (pss_one (ps_if (pt_not (pt_val (pe_f c_is_whole_list (hr.mono (by decide)) (pa_cons (pv 1) (pa_cons (pe_glob (v := .int 60) rfl g_LONGEST_TEXT ⟨_, rfl⟩) (pa_cons pe_int (pa_cons (pe_f c__last_sign (hr.mono (by decide)) (pa_cons (pv 0) pa_nil)) pa_nil))))))) (pss_one (L2N.ps_raise rfl (L2N.takes_of rfl rfl rfl rfl) (L2N.pmk_own PySem.F.excBase_ValueError x_BadSign.x x_BadSign.g x_BadSign.k (raises_own x_BadSign.b x_BadSign.t) rfl))) pss_nil))), ?_⟩
  walk_at "rd"
  refine ⟨[d], .cons hd .nil, rfl, fun dn e v' H1 s1 _ => ?_, fun e he H1 s1 => ?_⟩
  · obtain ⟨cs, g, rfl, pl⟩ := isPlan_ok (needPlan_yes e)
    refine ⟨v, cs, g, rfl, dp_same s1 _ _ hd, u, x, 60, 0, _, rfl, by decide, dp_same s1 _ _ hx, fun H2 s2 => ⟨_, rfl, ?_⟩⟩
    cases ew : isWholeList x 60 0 ((cs.length : Int) - 1) with
    | false => exact iteT (kE .sign (signs_no pl ew) H2 (s1.trans s2))
    | true => exact iteF (kQ _ (signs_yes pl ew) .non H2 (s1.trans s2) .non)
  · obtain ⟨rfl, hp⟩ := needPlan_no he
    exact kE .plan (signs_noplan hp) H1 s1
end

section
variable {P : Program} {w : World} {K : PySem.W.Frag} {mg : Str → Option Value} {base : Heap} {f : Addr} {fd : FuncData}
abbrev s__law_cell_at : Stmt := topS 43
theorem sc__law_cell_at : FnScope ["_law_script", "_law_k"] ["_law_script", "_law_k"] (defScope s__law_cell_at) := ⟨rfl, rfl, rfl, by decide +kernel, rfl, by decide +kernel, by decide +kernel⟩

def sp_cell_at (K : PySem.W.Frag) : Sp := fun vs H Q _ => ∃ (a : Addr) (ns : List Int) (k : Nat), vs = [.ref a, .int k] ∧ SqL K H a (ns.map V.int) ∧ Q (.int (cellAt ns k)) H
theorem ok_cell_at (F : FnP K "_law_cell_at" s__law_cell_at f fd) (z_len : mg "len" = none) : FnOk P w K mg base CX0 1 f fd ["_law_script", "_law_k"] (sp_cell_at K) := by
  refine F.ok sc__law_cell_at (fun vs H Q E h => ?_) (fun cdv A outer s H vs Q E hr h => ?_)
  · obtain ⟨_, _, _, rfl, _⟩ := h
    rfl
  · obtain ⟨a, ns, k, rfl, hs, q⟩ := h
    refine ⟨_, PSs.nox (pss_cons (ps_if (pt_cmpR op_lt (pv 1) (pe_callB (lenK (K := K) rfl) (by rfl) z_len (by decide +kernel) (pa_cons (pv 0) pa_nil)) (nomark _)) (pss_one (ps_ret (pe_op op_add (pe_ix (ix_listK (K := K) rfl) (pv 0) (pv 1) (fun _ _ => rfl)) (pe_op op_mul (pe_op op_mod (pe_ix (ix_listK (K := K) rfl) (pv 0) (pv 1) (fun _ _ => rfl)) pe_int) pe_int)))) pss_nil)
      (pss_one (ps_ret pe_int))), ?_⟩
    walk_at "rd"
    refine ⟨_, .inl hs, ?_⟩
    rw [List.length_map]
    unfold cellAt at q
    refine ite2 (fun c => ?_) (fun c => ?_)
    · have hk : k < ns.length := by simpa using c
      rw [List.getElem?_eq_getElem hk] at q
      have hat : atI (ns.map V.int) (k : Int) = some (.int ns[k]) := atI_nat (by rw [List.getElem?_map, List.getElem?_eq_getElem hk]; rfl)
      refine ⟨a, _, k, _, rfl, rfl, hs, hat, a, _, k, _, rfl, rfl, hs, hat, ?_⟩
      have h1 : 0 ≤ ns[k] % 251 := Int.emod_nonneg _ (by decide)
      have h2 : ns[k] % 251 < 251 := Int.emod_lt_of_pos _ (by decide)
      exact ⟨_, rfl, by decide, cmul_l (by omega), _, rfl, q⟩
    · have hk : ¬ k < ns.length := fun z => c (by simpa using z)
      rw [List.getElem?_eq_none (by omega)] at q
      exact q
abbrev s__law_mixed : Stmt := topS 44
theorem sc__law_mixed : FnScope ["_law_cell", "_law_k"] ["_law_cell", "_law_k"] (defScope s__law_mixed) := ⟨rfl, rfl, rfl, by decide +kernel, rfl, by decide +kernel, by decide +kernel⟩

def sp_mixed : Sp := fun vs H Q _ => ∃ c k : Int, vs = [.int c, .int k] ∧ 0 ≤ k ∧ k < 5000 ∧ Q (.int (mixed c k)) H
theorem ok_mixed (F : FnP K "_law_mixed" s__law_mixed f fd) : FnOk P w K mg base CX0 1 f fd ["_law_cell", "_law_k"] sp_mixed := by
  refine F.ok sc__law_mixed (fun vs H Q E h => ?_) (fun cdv A outer s H vs Q E hr h => ?_)
  · obtain ⟨c, k, rfl, _⟩ := h
    rfl
  · obtain ⟨c, k, rfl, h0, h1, q⟩ := h
    refine ⟨_, PSs.nox (pss_one (ps_ret (pe_op op_mod (pe_op op_add (pe_op op_add (pe_op op_mul (pv 0) (pe_op op_add (pe_op op_add pe_int (pe_op op_mul (pe_op op_mul pe_int (pv 1)) (pv 1))) (pe_op op_mul pe_int (pv 1)))) (pe_op op_mul pe_int (pv 1))) pe_int) pe_int))), ?_⟩
    walk_at "rd"
    have h2 : 0 ≤ k * k := Int.mul_nonneg h0 h0
    have h3 : k * k ≤ 5000 * 5000 := Int.mul_le_mul (by omega) (by omega) h0 (by omega)
    have h4 : 7919 * k * k = 7919 * (k * k) := Int.mul_assoc _ _ _
    refine ⟨cmul_l (by omega), cmul_l (by omega), cmul_l (by omega), cmul_r (by rw [h4]; omega), cmul_l (by omega), by decide, q⟩
abbrev s__law_whole : Stmt := topS 45
theorem sc__law_whole : FnScope ["_law_found"] ["_law_found"] (defScope s__law_whole) := ⟨rfl, rfl, rfl, by decide +kernel, rfl, by decide +kernel, by decide +kernel⟩

def sp_whole (K : PySem.W.Frag) : Sp := fun vs H Q _ => ∃ (v : V) (d : PyData), vs = [v] ∧ Dp K H v d ∧ Q (.bl (isD d "int" && !isD d "bool")) H
theorem ok_whole (F : FnP K "_law_whole" s__law_whole f fd) (z_isinstance : mg "isinstance" = none) (z_int : mg "int" = none) (z_bool : mg "bool" = none) : FnOk P w K mg base CX0 1 f fd ["_law_found"] (sp_whole K) := by
  refine F.ok sc__law_whole (fun vs H Q E h => ?_) (fun cdv A outer s H vs Q E hr h => ?_)
  · obtain ⟨_, _, rfl, _⟩ := h
    rfl
  · obtain ⟨v, d, rfl, hd, q⟩ := h
    refine ⟨_, PSs.nox (pss_one (ps_ret (pe_and (pe_callB (isK (K := K) rfl) (by rfl) z_isinstance (by decide +kernel) (pa_cons (pv 0) (pa_cons (pe_bltn (v := .ty "int") (u := .type "int") (by rfl) z_int (by decide +kernel) rfl) pa_nil))) (pe_one (pe_not (pe_callB (isK (K := K) rfl) (by rfl) z_isinstance (by decide +kernel) (pa_cons (pv 0) (pa_cons (pe_bltn (v := .ty "bool") (u := .type "bool") (by rfl) z_bool (by decide +kernel) rfl) pa_nil)))))))), ?_⟩
    walk_at "rd"
    refine ⟨v, d, "int", rfl, hd, by decide, _, rfl, ?_⟩
    cases e : isD d "int" with
    | true =>
      rw [e] at q
      exact iteT ⟨v, d, "bool", rfl, hd, by decide, _, rfl, q⟩
    | false =>
      rw [e] at q
      exact iteF q
abbrev s__law_plan : Stmt := topS 46
theorem sc__law_plan : FnScope ["_law_cell", "_law_most", "_law_counts", "_law_k"] ["_law_cell"] (defScope s__law_plan) := ⟨rfl, rfl, rfl, by decide +kernel, rfl, by decide +kernel, by decide +kernel⟩

def sp_plan (K : PySem.W.Frag) : Sp := fun vs H Q _ => ∃ c : Int, vs = [.int c] ∧ ∀ v H', Same H H' → Dp K H' v (planD (planCs c) (planG c)) → Q v H'
theorem ok_plan (F : FnP K "_law_plan" s__law_plan f fd) (c__law_mixed : Cal P w K mg base CX0 1 "_law_mixed" ["_law_cell", "_law_k"] sp_mixed) (z_range : mg "range" = none) (z_len : mg "len" = none) (z_tuple : mg "tuple" = none) : FnOk P w K mg base CX0 2 f fd ["_law_cell"] (sp_plan K) := by
  refine F.ok sc__law_plan (fun vs H Q E h => ?_) (fun cdv A outer s H vs Q E hr h => ?_)
  · obtain ⟨_, rfl, _⟩ := h
    rfl
  · obtain ⟨c, rfl, q⟩ := h
    refine ⟨_, PSs.nox (pss_cons (ps_set (i := 1) sc__law_plan.nd rfl (Or.inr rfl) (pe_ix (ix_listK (K := K) rfl) (pe_lst (pa_cons pe_int (pa_cons pe_int (pa_cons pe_int (pa_cons pe_int pa_nil))))) (pe_op op_mod (pe_op op_fdiv (pv 0) pe_int) pe_int) (fun _ _ => rfl)))
      (pss_cons (ps_setLc (i := 2) (own := [("_law_k", 3)]) (g := gName 3) rfl sc__law_plan.nd rfl rfl (sw_true rfl rfl rfl (by decide +kernel)) (pi_range1 rfl z_range (pa_cons (pe_op op_add pe_int (pe_op op_mod (pv 0) pe_int)) pa_nil)) (blkOk_by (own := [("_law_k", 3)]) (N := ["_law_cell", "_law_most", "_law_counts", "_law_k"]) (sc := defScope s__law_plan) (by decide +kernel)) (fun _ _ _ _ _ => pg_name (i := 3) sc__law_plan.nd rfl (Or.inl rfl)) (fun _ _ _ _ _ => pts_nil) (fun _ _ _ _ _ => (pe_op op_add pe_int (pe_op op_mod (pe_f c__law_mixed (hr.mono (by decide)) (pa_cons (pe_op op_fdiv (pv 0) pe_int) (pa_cons (pv 3) pa_nil))) (pv 1)))))
      (pss_cons (ps_if (pt_cmpR op_eq (pe_op op_mod (pe_op op_fdiv (pv 0) pe_int) pe_int) pe_int (nomark _)) (pss_one (ps_asg (pe_op op_sub pe_int (pe_op op_mod (pe_op op_fdiv (pv 0) pe_int) pe_int)) (pg_sub (pv 2) (pe_op op_mod (pe_op op_fdiv (pv 0) pe_int) (pe_callB (lenK (K := K) rfl) (by rfl) z_len (by decide +kernel) (pa_cons (pv 2) pa_nil))) set_list))) pss_nil)
      (pss_one (ps_ret (pe_tup (pa_cons (pe_callTy (tupleK (K := K) rfl) (by rfl) z_tuple (by decide +kernel) (pa_cons (pv 2) pa_nil)) (pa_cons (pe_ix (ix_listK (K := K) rfl) (pe_lst (pa_cons pe_int (pa_cons pe_int (pa_cons pe_int (pa_cons (pe_op op_mod (pe_op op_fdiv (pv 0) pe_int) pe_int) pa_nil))))) (pe_op op_mod (pe_op op_fdiv (pv 0) pe_int) pe_int) (fun _ _ => rfl)) pa_nil)))))))), ?_⟩
    walk_at "rd"
    refine ⟨by decide, fun p np => ⟨⟨by decide, by decide⟩, by decide, p, _, _, .int (mostOf c), rfl, rfl, .inl (.inl upd_same), ?_, ?_⟩⟩
    · have h1 : 0 ≤ c / 7 % 4 := Int.emod_nonneg _ (by decide)
      refine at_of (j := (c / 7 % 4).toNat) (by omega) ?_
      unfold mostOf
      rcases mod4 (c / 7) with h | h | h | h <;> rw [h] <;> rfl
    have s1 : Same H (upd H p (.lst [V.int 3, V.int 9, V.int 1000, V.int 1000000])) := same_upd np
    have hm := mostOf_ok c
    have h7 : 0 ≤ c % 7 := Int.emod_nonneg _ (by decide)
    have h7b : c % 7 < 7 := Int.emod_lt_of_pos _ (by decide)
    have em : (((2 + c % 7).toNat : Nat) : Int) = 2 + c % 7 := by omega
    refine lc_dpR (K := K) (m := (2 + c % 7).toNat) (fun _ => true) (fun k => .int (1 + mixed (c / 112) k % mostOf c)) (fun R h => ?_) (by omega) (fun n H' R _ _ k => yes_t k) (fun n H' D R e _ hD _ sm k => ?_) (fun D acc H' hD sm e dp => ?_)
    · rw [em] at h
      walk_at "rd"
      exact ⟨by decide, h⟩
    · walk_at "rd"
      refine ⟨⟨by decide, by decide⟩, c / 112, n, rfl, by omega, by omega, _, rfl, by omega, ?_⟩
      exact k _ _ (Same.refl _) (.int _)
    · rw [filter_yes] at dp
      have ea : acc = (counts0 c).map V.int := dpa_ints_eq (by unfold counts0; rw [List.map_map]; exact dp)
      subst ea
      have sm0 : Same H H' := s1.trans sm
      have nD : H D = none := s1.free hD
      refine ⟨⟨by decide, by decide⟩, by decide, ?_⟩
      have hl : ((counts0 c).map V.int).length = (counts0 c).length := List.length_map ..
      have hln := counts0_len c
      -- what stands behind the if
      have fin : ∀ H2, H2 D = some (.lst ((planCs c).map V.int)) → Same H H2 → ∀ l, H2 l = none → CDiv c 112 ∧ (0 : Int) < 1000001 ∧ 4 ≤ sizeLine ∧ ∀ p, upd H2 l (.tup ((planCs c).map V.int)) p = none → CDiv c 28 ∧ (0 : Int) < 4 ∧
          rIxL K (V.ref p) (V.int (c / 28 % 4)) (upd (upd H2 l (.tup ((planCs c).map V.int))) p (HO.lst [V.int 0, V.int 1, V.int 7, V.int (c / 112 % 1000001)])) fun x H1 => 2 ≤ sizeLine ∧ ∀ p, H1 p = none → Q (V.ref p) (upd H1 p (.tup [V.ref l, x])) := by
        intro H2 e2 s2 l nl
        refine ⟨⟨by decide, by decide⟩, by decide, by decide, fun p2 np2 => ⟨⟨by decide, by decide⟩, by decide, p2, _, _, .int (planG c), rfl, rfl, .inl (.inl upd_same), ?_, by decide, fun t nt => ?_⟩⟩
        · have h1 : 0 ≤ c / 28 % 4 := Int.emod_nonneg _ (by decide)
          refine at_of (j := (c / 28 % 4).toNat) (by omega) ?_
          unfold planG
          rcases mod4 (c / 28) with h | h | h | h <;> rw [h] <;> rfl
        · have sA : Same (upd H2 l (.tup ((planCs c).map V.int))) _ := same_upd np2 (o := HO.lst [V.int 0, V.int 1, V.int 7, V.int (c / 112 % 1000001)])
          have sB : Same _ _ := same_upd nt (o := HO.tup [V.ref l, V.int (planG c)])
          refine q _ _ (((s2.trans (same_upd nl)).trans sA).trans sB) (plan_dp (.inl (.inl upd_same)) (.inl (.inl ?_)))
          exact sB _ _ (sA _ _ upd_same)
      refine ite2 (fun c3 => ?_) (fun c3 => ?_)
      · have c4 : c / 28 % 4 = 3 := of_decide_eq_true c3
        have hcs : planCs c = (counts0 c).set (c / 112 % ((counts0 c).length : Int)).toNat (1000000 - c / 300 % 3) := if_pos c4
        have hp0 : 0 ≤ c / 112 % ((counts0 c).length : Int) := Int.emod_nonneg _ (by omega)
        have hp1 : c / 112 % ((counts0 c).length : Int) < (counts0 c).length := Int.emod_lt_of_pos _ (by omega)
        refine ⟨⟨by decide, by decide⟩, by decide, ⟨by decide, by decide⟩, D, rfl, _, .inl (.inl (.inl e)), by omega, ?_⟩
        rw [hl]
        have hix : ixN ((counts0 c).map V.int).length (c / 112 % ((counts0 c).length : Int)) = some (c / 112 % ((counts0 c).length : Int)).toNat := by
          obtain ⟨j, hj⟩ := Int.eq_ofNat_of_zero_le hp0
          rw [hj, Int.toNat_natCast]
          exact Evl.ixN_nat (by omega)
        refine ⟨D, _, _, _, rfl, rfl, e, hix, D, rfl, _, .inl ⟨.inl (.inl upd_same), ?_⟩⟩
        rw [← List.map_set, ← hcs]
        exact fin _ upd_same (same_mut sm0 nD)
      · have c4 : ¬ c / 28 % 4 = 3 := fun z => c3 (decide_eq_true z)
        have hcs : planCs c = counts0 c := if_neg c4
        refine ⟨D, rfl, _, .inl ⟨.inl (.inl e), ?_⟩⟩
        rw [← hcs]
        rw [← hcs] at e
        exact fin _ e sm0
abbrev s__law_behind : Stmt := topS 47
theorem sc__law_behind : FnScope ["_law_plan_here", "_law_sign", "_law_counts"] ["_law_plan_here", "_law_sign"] (defScope s__law_behind) := ⟨rfl, rfl, rfl, by decide +kernel, rfl, by decide +kernel, by decide +kernel⟩

def sp_lbehind (K : PySem.W.Frag) : Sp := fun vs H Q _ => ∃ (v : V) (cs : List Int) (g s : Int), vs = [v, .int s] ∧ Dp K H v (planD cs g) ∧ Plan cs g ∧ 0 ≤ s ∧ s < cs.length ∧ ∀ v' H', Same H H' → Dp K H' v' (planD (grown cs g s) g) → Q v' H'
theorem ok_lbehind (F : FnP K "_law_behind" s__law_behind f fd) (z_list : mg "list" = none) (z_min : mg "min" = none) (z_tuple : mg "tuple" = none) : FnOk P w K mg base CX0 1 f fd ["_law_plan_here", "_law_sign"] (sp_lbehind K) := by
  refine F.ok sc__law_behind (fun vs H Q E h => ?_) (fun cdv A outer s H vs Q E hr h => ?_)
  · obtain ⟨_, _, _, _, rfl, _⟩ := h
    rfl
  · obtain ⟨v, cs, g, s, rfl, hd, pl, h0, h1, q⟩ := h
    refine ⟨_, PSs.nox (pss_cons (ps_set (i := 2) sc__law_behind.nd rfl (Or.inl rfl) (pe_callTy (listK (K := K) rfl) (by rfl) z_list (by decide +kernel) (pa_cons (pe_ix (ix_tupK (K := K) rfl) (pv 0) pe_int (fun _ _ => rfl)) pa_nil)))
      (pss_cons (ps_asg (pe_callB (call_min2 rfl) (by rfl) z_min (by decide +kernel) (pa_cons pe_int (pa_cons (pe_op op_add (pe_ix (ix_listK (K := K) rfl) (pv 2) (pv 1) (fun _ _ => rfl)) (pe_ix (ix_tupK (K := K) rfl) (pv 0) pe_int (fun _ _ => rfl))) pa_nil))) (pg_sub (pv 2) (pv 1) set_list))
      (pss_one (ps_ret (pe_tup (pa_cons (pe_callTy (tupleK (K := K) rfl) (by rfl) z_tuple (by decide +kernel) (pa_cons (pv 2) pa_nil)) (pa_cons (pe_ix (ix_tupK (K := K) rfl) (pv 0) pe_int (fun _ _ => rfl)) pa_nil))))))), ?_⟩
    walk_at "rd"
    obtain ⟨a, c, rfl, ha, hc⟩ := plan_at hd
    refine ⟨a, _, 0, .ref c, rfl, rfl, ha, rfl, c, rfl, _, .inr hc, fun l nl => ?_⟩
    have s1 : Same H _ := same_upd nl (o := HO.lst (cs.map V.int))
    have hat := at_nth (cs := cs) h0 h1
    have hix : ixN (cs.map V.int).length s = some s.toNat := by
      obtain ⟨j, hj⟩ := Int.eq_ofNat_of_zero_le h0
      rw [hj, Int.toNat_natCast]
      exact Evl.ixN_nat (by rw [List.length_map]; omega)
    refine ⟨l, _, s, _, rfl, rfl, .inl (.inl upd_same), hat, a, _, 1, .int g, rfl, rfl, same_t s1 ha, rfl, _, rfl, g, rfl, l, _, s, _, rfl, rfl, upd_same, hix, _, .inl ⟨.inl (.inl upd_same), fun l2 nl2 => ?_⟩⟩
    have em : (if nth cs s + g < 1000000 then nth cs s + g else (1000000 : Int)) = min (nth cs s + g) 1000000 := by
      by_cases z : nth cs s + g < 1000000
      · rw [if_pos z]; omega
      · rw [if_neg z]; omega
    have em2 : (cs.map V.int).set s.toNat (V.int (if nth cs s + g < 1000000 then nth cs s + g else (1000000 : Int))) = (grown cs g s).map V.int := by
      rw [em, ← List.map_set]
      rfl
    rw [em2] at nl2 ⊢
    have s2 : Same H (upd (upd H l (HO.lst (cs.map V.int))) l (HO.lst ((grown cs g s).map V.int))) := same_mut s1 nl
    have s3 : Same H _ := s2.trans (same_upd nl2 (o := HO.tup ((grown cs g s).map V.int)))
    refine ⟨a, _, 1, .int g, rfl, rfl, same_t s3 ha, rfl, by decide, fun t nt => ?_⟩
    have s4 : Same _ _ := same_upd nt (o := HO.tup [V.ref l2, V.int g])
    exact q _ _ (s3.trans s4) (plan_dp (.inl (.inl upd_same)) (.inl (.inl (s4 _ _ upd_same))))
abbrev s__law_signs : Stmt := topS 48
theorem sc__law_signs : FnScope ["_law_cell", "_law_plan_here", "_law_most", "_law_size", "_law_way", "_law_signs_here", "_law_k", "_law_sign"] ["_law_cell", "_law_plan_here", "_law_most"] (defScope s__law_signs) := ⟨rfl, rfl, rfl, by decide +kernel, rfl, by decide +kernel, by decide +kernel⟩

def sp_signs (K : PySem.W.Frag) : Sp := fun vs H Q _ => ∃ (v : V) (c : Int) (cs : List Int) (g : Int) (most : Nat), vs = [.int c, v, .int most] ∧ Dp K H v (planD cs g) ∧ 0 < cs.length ∧ most ≤ 1000 ∧ ∀ p H', H p = none → Same H H' → H' p = some (.lst ((signsOf c cs.length most).map V.int)) → Q (.ref p) H'
theorem ok_signs (F : FnP K "_law_signs" s__law_signs f fd) (c__law_mixed : Cal P w K mg base CX0 1 "_law_mixed" ["_law_cell", "_law_k"] sp_mixed) (z_range : mg "range" = none) (z_len : mg "len" = none) : FnOk P w K mg base CX0 2 f fd ["_law_cell", "_law_plan_here", "_law_most"] (sp_signs K) := by
  refine F.ok sc__law_signs (fun vs H Q E h => ?_) (fun cdv A outer s H vs Q E hr h => ?_)
  · obtain ⟨_, _, _, _, _, rfl, _⟩ := h
    rfl
  · obtain ⟨v, c, cs, g, most, rfl, hd, hn, hm, q⟩ := h
    refine ⟨_, PSs.nox (pss_cons (ps_set (i := 3) sc__law_signs.nd rfl (Or.inl rfl) (pe_op op_mod (pv 0) (pe_op op_add (pv 2) pe_int)))
      (pss_cons (ps_set (i := 4) sc__law_signs.nd rfl (Or.inl rfl) (pe_op op_mod (pe_op op_fdiv (pv 0) pe_int) pe_int))
      (pss_cons (ps_set (i := 5) sc__law_signs.nd rfl (Or.inl rfl) (pe_lst pa_nil))
      (pss_cons (ps_for PassesOwn.never rfl (pi_range1 rfl z_range (pa_cons (pv 3) pa_nil)) (pg_name (i := 6) sc__law_signs.nd rfl (.inl rfl)) (pss_cons (ps_set (i := 7) sc__law_signs.nd rfl (Or.inl rfl) (pe_op op_mod (pe_f c__law_mixed (hr.mono (by decide)) (pa_cons (pe_op op_fdiv (pv 0) pe_int) (pa_cons (pv 6) pa_nil))) (pe_callB (lenK (K := K) rfl) (by rfl) z_len (by decide +kernel) (pa_cons (pe_ix (ix_tupK (K := K) rfl) (pv 1) pe_int (fun _ _ => rfl)) pa_nil))))
      (Evl.pss_cut (ps_if (pt_cmpR op_eq (pv 4) pe_int (nomark _)) (pss_one (ps_set (i := 7) sc__law_signs.nd rfl (Or.inl rfl) (pe_op op_mod (pe_op op_fdiv (pv 0) pe_int) (pe_callB (lenK (K := K) rfl) (by rfl) z_len (by decide +kernel) (pa_cons (pe_ix (ix_tupK (K := K) rfl) (pv 1) pe_int (fun _ _ => rfl)) pa_nil))))) pss_nil)
      (Evl.pss_cut (ps_if (PW.pt (pw_and (pt_cmpR op_eq (pv 4) pe_int (nomark _)) (pw_and1 (pt_cmpR op_lt (pe_op op_mod (pv 6) pe_int) pe_int (nomark _))))) (pss_one (ps_set (i := 7) sc__law_signs.nd rfl (Or.inl rfl) pe_int)) pss_nil)
      (pss_one (ps_expr (pe_bm PySem.F.plainAttrs_list PySem.F.slot_list_append PySem.F.type_list_append mt_append (pv 5) (pa_cons (pv 7) pa_nil))))))))
      (pss_one (ps_ret (pv 5))))))), ?_⟩
    walk_at "rd"
    have hz0 : 0 ≤ c % ((most : Int) + 1) := Int.emod_nonneg _ (by omega)
    have hz1 : c % ((most : Int) + 1) < (most : Int) + 1 := Int.emod_lt_of_pos _ (by omega)
    obtain ⟨a, cc, rfl, ha, hc⟩ := plan_at hd
    refine ⟨by omega, ⟨by decide, by decide⟩, by decide, by decide, fun p np => ?_⟩
    have s0 : Same H (upd H p (.lst [])) := same_upd np
    refine ⟨_, rfl, c % ((most : Int) + 1), rfl, by omega, by omega, for_range (lo := 0) (n := (c % ((most : Int) + 1)).toNat) (fun i σ H' => ∃ y6 y7, σ = [some (.int c), some (.ref a), some (.int most), some (.int (c % ((most : Int) + 1))), some (.int (c / 61 % 4)), some (.ref p), y6, y7] ∧ Same H H' ∧ H' p = some (.lst (((List.range i).map (signAt c cs.length)).map V.int)))
      ⟨none, none, rfl, s0, upd_same⟩ ?_ ?_⟩
    · rintro i σ H' hi ⟨y6, y7, rfl, sm, e⟩
      have ta := same_t sm ha
      have tc := same_t sm hc
      walk_at "rd"
      refine ⟨⟨by decide, by decide⟩, c / 244, i, by rw [Int.zero_add], by omega, by omega, ?_⟩
      refine ⟨a, _, 0, .ref cc, rfl, rfl, ta, rfl, cc, rfl, _, .inr tc, _, rfl, ?_⟩
      rw [List.length_map]
      rw [Int.zero_add]
      have hn0 : (0 : Int) < cs.length := by omega
      refine ⟨hn0, fun σ2 H2 => H2 = H' ∧ σ2 = [some (.int c), some (.ref a), some (.int most), some (.int (c % ((most : Int) + 1))), some (.int (c / 61 % 4)), some (.ref p), some (.int i), some (.int (if c / 61 % 4 = 1 then c / 244 % (cs.length : Int) else mixed (c / 244) i % (cs.length : Int)))], ?_, ?_⟩
      · refine ite2 (fun c1 => ?_) (fun c1 => ?_)
        · refine ⟨⟨by decide, by decide⟩, a, _, 0, .ref cc, rfl, rfl, ta, rfl, cc, rfl, _, .inr tc, ?_⟩
          rw [List.length_map, if_pos (of_decide_eq_true c1)]
          exact ⟨hn0, rfl, rfl⟩
        · rw [if_neg (fun z => c1 (decide_eq_true z))]
          exact ⟨rfl, rfl⟩
      · rintro σ2 H2 ⟨rfl, rfl⟩
        walk_at "rd"
        refine ⟨fun σ3 H3 => H3 = H2 ∧ σ3 = [some (.int c), some (.ref a), some (.int most), some (.int (c % ((most : Int) + 1))), some (.int (c / 61 % 4)), some (.ref p), some (.int i), some (.int (signAt c cs.length i))], ?_, ?_⟩
        · unfold signAt
          refine ite2 (fun c2 => ?_) (fun c2 => ?_)
          · have d2 := of_decide_eq_true c2
            refine ⟨by decide, ite2 (fun c3 => ?_) (fun c3 => ?_)⟩
            · rw [if_pos ⟨d2, of_decide_eq_true c3⟩]
              exact ⟨rfl, rfl⟩
            · rw [if_neg (fun z => c3 (decide_eq_true z.2))]
              exact ⟨rfl, rfl⟩
          · rw [if_neg (fun z => c2 (decide_eq_true z.1))]
            exact ⟨rfl, rfl⟩
        · rintro σ3 H3 ⟨rfl, rfl⟩
          refine ⟨_, rfl, .inl ⟨rfl, _, .inl (.inl e)⟩, _, rfl, p, _, _, rfl, rfl, e, ?_, ⟨_, _, rfl⟩, same_mut sm np, ?_⟩
          · rw [List.length_map, List.length_map, List.length_range]
            exact Nat.lt_of_lt_of_le (show i < 100001 by omega) (by decide)
          · rw [upd_same, List.range_succ, List.map_append, List.map_append]
            rfl
    · rintro σ H' ⟨y6, y7, rfl, sm, e⟩
      walk_at "rd"
      exact q p H' np sm e
end

/-! ### calls of the laws' own defs, as data -/
section
variable {K : PySem.W.Frag} {te ta tb tc : TE} {σ : L2.St} {H : Hp} {d x : PyData} {ns cs : List Int} {g c s : Int}
theorem dpa1 {v : V} {vs : List V} (h : DpAll K H vs [d]) : ∃ v, vs = [v] ∧ Dp K H v d := by
  cases h with
  | cons h1 h2 => cases h2; exact ⟨_, rfl, h1⟩
theorem ev_cell {k : Nat} (h : EvD K ta σ H (.list (ns.map PyData.int))) (hk : EvV tb σ H (.int (k : Int))) : EvV (tCall (sp_cell_at K) [] E0 (tCons ta (tCons tb tNil))) σ H (.int (cellAt ns k)) :=
  evv_call (eds_cons h (eds_cons hk.int eds_nil)) fun vs H1 Q s1 d1 q => by
    cases d1 with
    | cons a1 a2 => cases a2 with
      | cons a2 a3 =>
        cases a3
        cases dp_int a2
        cases a1 with
        | lst hs ha =>
          rw [dpa_ints_eq ha] at hs
          exact ⟨_, ns, k, rfl, hs, q H1 (Same.refl _)⟩
theorem ev_whole (h : EvD K ta σ H d) : EvV (tCall (sp_whole K) [] E0 (tCons ta tNil)) σ H (.bl (isD d "int" && !isD d "bool")) :=
  evv_call (eds_cons h eds_nil) fun vs H1 Q s1 d1 q => by
    cases d1 with
    | cons a1 a2 =>
      cases a2
      exact ⟨_, d, rfl, a1, q H1 (Same.refl _)⟩
theorem evd_plan (h : EvV ta σ H (.int c)) : EvD K (tCall (sp_plan K) [] E0 (tCons ta tNil)) σ H (planD (planCs c) (planG c)) :=
  evd_call (eds_cons h.int eds_nil) fun vs H1 Q s1 d1 q => by
    cases d1 with
    | cons a1 a2 =>
      cases a2
      cases dp_int a1
      exact ⟨c, rfl, q⟩
theorem evd_lbehind (h : EvD K ta σ H (planD cs g)) (hs : EvV tb σ H (.int s)) (pl : Plan cs g) (h0 : 0 ≤ s) (h1 : s < cs.length) : EvD K (tCall (sp_lbehind K) [] E0 (tCons ta (tCons tb tNil))) σ H (planD (grown cs g s) g) :=
  evd_call (eds_cons h (eds_cons hs.int eds_nil)) fun vs H1 Q s1 d1 q => by
    cases d1 with
    | cons a1 a2 => cases a2 with
      | cons a2 a3 =>
        cases a3
        cases dp_int a2
        exact ⟨_, cs, g, s, rfl, a1, pl, h0, h1, q⟩
theorem evo_signs {most : Nat} (hc : EvV ta σ H (.int c)) (h : EvD K tb σ H (planD cs g)) (hm : EvV tc σ H (.int (most : Int))) (hn : 0 < cs.length) (hl : most ≤ 1000) : EvO K (tCall (sp_signs K) [] E0 (tCons ta (tCons tb (tCons tc tNil)))) σ H ((signsOf c cs.length most).map PyData.int) :=
  evo_call (eds_cons hc.int (eds_cons h (eds_cons hm.int eds_nil))) fun vs H1 Q s1 d1 q => by
    cases d1 with
    | cons a1 a2 => cases a2 with
      | cons a2 a3 => cases a3 with
        | cons a3 a4 =>
          cases a4
          cases dp_int a1
          cases dp_int a3
          exact ⟨_, c, cs, g, most, rfl, a2, hn, hl, fun p H2 np s2 e2 => q p _ H2 np s2 e2 (dpa_ints _)⟩
end

section
variable {K : PySem.W.Frag} {te : TE} {σ : L2.St} {H : Hp} {ns : List Int} {j : Nat}
theorem ev_allWhole (h : EvD K te σ H (.list (ns.map PyData.int))) (hz : ns.length ≤ 100000) (hj : ∀ x, ((wipe σ [j]).set j (some x))[j]? = some (some x)) : EvV (tCB (rAll K) (tCons (tLc (iList K te) (gName j) tYes (tCall (sp_whole K) [] E0 (tCons (tVar j) tNil)) [j]) tNil)) σ H (.bl true) := by
  have e : ((ns.map fun _ => true).all id) = true := List.all_eq_true.mpr fun b hb => by
    obtain ⟨_, _, rfl⟩ := List.mem_map.mp hb
    rfl
  refine EvV.is (ev_all (bs := ns.map fun _ => true) (EvK.dat (EvO.k (EvO.is (evo_lcL (K := K) .none (fun _ => true) (fun _ => .bool true) h (by rw [List.length_map]; exact hz) (fun x d H1 R _ _ _ k => yes_t k) (fun x d G D R hm _ r1 hx hD r2 k => ?_)) ?_)))) (by rw [e])
  · obtain ⟨i, hi, rfl⟩ := List.mem_map.mp hm
    cases dp_int hx
    exact (ev_whole (d := .int i) (evd_var (hj _) (.int i))) G R (Same.refl _) fun H2 s2 => k _ H2 s2 (.bl _)
  · rw [filter_yes, List.map_map, List.map_map]
    rfl
theorem sgn_back {cs : List Int} {g : Int} {ss xs : List Int} {m : Nat} (pl : Plan cs g) (tx : Text cs.length ss) (hb : Bits xs) (hm : m ≤ ss.length) : sgn cs g m (figsIn (textS cs g ss) ++ xs) = ss.take m := by
  have bf := figsIn_bits (textS cs g ss)
  have gd := textS_good pl tx
  exact certain_back (figS_good (bf.both hb)) whole_good pl tx.signs (within_trans (figS_good (bf.both hb)) (figS_good bf) gd (figs_prefix hb) (figsIn_within gd)) hm
theorem sgn_back0 {cs : List Int} {g : Int} {ss : List Int} {m : Nat} (pl : Plan cs g) (tx : Text cs.length ss) (hm : m ≤ ss.length) : sgn cs g m (figsIn (textS cs g ss)) = ss.take m := by
  have := sgn_back (xs := []) pl tx (fun _ h => nomatch h) hm
  rw [List.append_nil] at this
  exact this
end

section
variable {P : Program} {w : World} {K : PySem.W.Frag} {mg : Str → Option Value} {base : Heap} {f : Addr} {fd : FuncData}
abbrev s_parted : Stmt := topS 26
theorem sc_parted : FnScope ["stretch", "one", "low", "wide", "parts", "below", "count", "total"] ["stretch", "one"] (defScope s_parted) := ⟨rfl, rfl, rfl, by decide +kernel, rfl, by decide +kernel, by decide +kernel⟩

def sp_parted (K : PySem.W.Frag) : Sp := fun vs H Q _ => ∃ (v u : V) (s : S3) (n : Nat) (b c q : Int), vs = [v, u] ∧ Dp K H v s.d ∧ Dp K H u (.tuple [.int b, .int c, .int q]) ∧ s.Ok n ∧ n ≤ 100000 ∧ Share b c q ∧ ∀ v' H', Same H H' → Dp K H' v' (s.by b c q).d → Q v' H'
theorem ok_parted (F : FnP K "parted" s_parted f fd) : FnOk P w K mg base CX0 1 f fd ["stretch", "one"] (sp_parted K) := by
  refine F.ok sc_parted (fun vs H Q E h => ?_) (fun cdv A outer s H vs Q E hr h => ?_)
  · obtain ⟨_, _, _, _, _, _, _, rfl, _⟩ := h
    rfl
  · obtain ⟨v, u, s, n, b, c, q, rfl, hv, hu, ok, hn, sh, k⟩ := h
    refine ⟨_, PSs.nox (pss_hold (ps_asg (pv 0) (pg_tupK (K := K) (n := 3) rfl rfl (pgs_cons (pg_name (i := 2) sc_parted.nd rfl (.inl rfl)) (pgs_cons (pg_name (i := 3) sc_parted.nd rfl (.inl rfl)) (pgs_cons (pg_name (i := 4) sc_parted.nd rfl (.inl rfl)) pgs_nil)))))
      (pss_hold (ps_asg (pv 1) (pg_tupK (K := K) (n := 3) rfl rfl (pgs_cons (pg_name (i := 5) sc_parted.nd rfl (.inl rfl)) (pgs_cons (pg_name (i := 6) sc_parted.nd rfl (.inl rfl)) (pgs_cons (pg_name (i := 7) sc_parted.nd rfl (.inl rfl)) pgs_nil)))))
      (pss_one (ps_ret (pe_tup (pa_cons (pe_op op_add (pe_op op_mulW (pv 2) (pv 7)) (pe_op op_mulW (pv 3) (pv 5))) (pa_cons (pe_op op_mulW (pv 3) (pv 6)) (pa_cons (pe_op op_mulW (pv 4) (pv 7)) pa_nil)))))))), ?_⟩
    have sa := sh.abs
    refine unpS (evd_var rfl hv) fun H1 s1 => hold (unpS (s := ⟨b, c, q⟩) (evd_var rfl (dp_same s1 _ _ hu)) fun H2 s2 => hold (retD (d := (s.by b c q).d) (evd_tup (eds_cons (EvV.int (ev_op0 (ev_op (ev_var rfl) (ev_var rfl) (wmul ok.labs sa.2.2 (by omega))) (ev_op (ev_var rfl) (ev_var rfl) (wmul ok.wabs sa.1 (by omega)))))
      (eds_cons (EvV.int (ev_op (ev_var rfl) (ev_var rfl) (wmul ok.wabs sa.2.1 (by omega)))) (eds_cons (EvV.int (ev_op (ev_var rfl) (ev_var rfl) (wmul ok.tabs sa.2.2 (by omega)))) eds_nil))) (by show 3 ≤ 100000; omega)) fun v' H3 s3 d3 => k v' H3 ((s1.trans s2).trans s3) d3))
abbrev s_within : Stmt := topS 27
theorem sc_within : FnScope ["one", "other", "low", "wide", "parts", "other_low", "other_wide", "other_parts"] ["one", "other"] (defScope s_within) := ⟨rfl, rfl, rfl, by decide +kernel, rfl, by decide +kernel, by decide +kernel⟩

def sp_within (K : PySem.W.Frag) : Sp := fun vs H Q _ => ∃ (v u : V) (s t : S3) (n m : Nat), vs = [v, u] ∧ Dp K H v s.d ∧ Dp K H u t.d ∧ s.Ok n ∧ t.Ok m ∧ n + m ≤ 800000 ∧ ∀ H', Same H H' → Q (.bl (withinB s t)) H'
theorem ok_within (F : FnP K "within" s_within f fd) : FnOk P w K mg base CX0 1 f fd ["one", "other"] (sp_within K) := by
  refine F.ok sc_within (fun vs H Q E h => ?_) (fun cdv A outer s H vs Q E hr h => ?_)
  · obtain ⟨_, _, _, _, _, _, rfl, _⟩ := h
    rfl
  · obtain ⟨v, u, s, t, n, m, rfl, hv, hu, ok, ok2, hn, k⟩ := h
    refine ⟨_, PSs.nox (pss_hold (ps_asg (pv 0) (pg_tupK (K := K) (n := 3) rfl rfl (pgs_cons (pg_name (i := 2) sc_within.nd rfl (.inl rfl)) (pgs_cons (pg_name (i := 3) sc_within.nd rfl (.inl rfl)) (pgs_cons (pg_name (i := 4) sc_within.nd rfl (.inl rfl)) pgs_nil)))))
      (pss_hold (ps_asg (pv 1) (pg_tupK (K := K) (n := 3) rfl rfl (pgs_cons (pg_name (i := 5) sc_within.nd rfl (.inl rfl)) (pgs_cons (pg_name (i := 6) sc_within.nd rfl (.inl rfl)) (pgs_cons (pg_name (i := 7) sc_within.nd rfl (.inl rfl)) pgs_nil)))))
      (pss_hold (ps_if (pt_cmpR op_lt (pe_op op_mulW (pv 2) (pv 7)) (pe_op op_mulW (pv 5) (pv 4)) (nomark _)) (pss_one (ps_ret pe_bl)) pss_nil)
      (pss_one (ps_ret (pe_cmpR op_le (pe_op op_mulW (pe_op op_add (pv 2) (pv 3)) (pv 7)) (pe_op op_mulW (pe_op op_add (pv 5) (pv 6)) (pv 4)) (nomark _))))))), ?_⟩
    refine unpS (evd_var rfl hv) fun H1 s1 => hold (unpS (evd_var rfl (dp_same s1 _ _ hu)) fun H2 s2 => hold ?_)
    have t2 := s1.trans s2
    walk_at "rd"
    refine ⟨wmul ok.labs ok2.tabs (by omega), wmul ok2.labs ok.tabs (by omega), ?_⟩
    refine ite2 (fun c => ?_) (fun c => ?_)
    · have e : decide (s.l * t.t < t.l * s.t) = true := c
      have k2 := k H2 t2
      unfold withinB at k2
      rw [e] at k2
      exact k2
    · have e : decide (s.l * t.t < t.l * s.t) = false := by
        rw [Bool.eq_false_iff]
        exact c
      have k2 := k H2 t2
      unfold withinB at k2
      rw [e] at k2
      walk_at "nx"
      exact ⟨wmul ok.lwabs ok2.tabs (by omega), wmul ok2.lwabs ok.tabs (by omega), k2⟩
theorem evd_parted {K : PySem.W.Frag} {ta tb : TE} {σ : L2.St} {H : Hp} {s : S3} {n : Nat} {b c q : Int} (h : EvD K ta σ H s.d) (h2 : EvD K tb σ H (.tuple [.int b, .int c, .int q])) (ok : s.Ok n) (hn : n ≤ 100000) (sh : Share b c q) : EvD K (tCall (sp_parted K) [] E0 (tCons ta (tCons tb tNil))) σ H (s.by b c q).d :=
  evd_call (eds_cons h (eds_cons h2 eds_nil)) fun vs H1 Q s1 d1 k => by
    cases d1 with
    | cons a1 a2 => cases a2 with
      | cons a2 a3 =>
        cases a3
        exact ⟨_, _, s, n, b, c, q, rfl, a1, a2, ok, hn, sh, k⟩
theorem ev_within {K : PySem.W.Frag} {ta tb : TE} {σ : L2.St} {H : Hp} {s t : S3} {n m : Nat} (h : EvD K ta σ H s.d) (h2 : EvD K tb σ H t.d) (ok : s.Ok n) (ok2 : t.Ok m) (hn : n + m ≤ 800000) : EvV (tCall (sp_within K) [] E0 (tCons ta (tCons tb tNil))) σ H (.bl (withinB s t)) :=
  evv_call (eds_cons h (eds_cons h2 eds_nil)) fun vs H1 Q s1 d1 k => by
    cases d1 with
    | cons a1 a2 => cases a2 with
      | cons a2 a3 =>
        cases a3
        exact ⟨_, _, s, t, n, m, rfl, a1, a2, ok, ok2, hn, k⟩
theorem signs_ok {d x r : PyData} (h : needSignsF [d, x] = .ok r) : ∃ cs g ss, d = planD cs g ∧ Plan cs g ∧ x = .list (ss.map PyData.int) ∧ Text cs.length ss := by
  cases hp : isPlan d with
  | false =>
    rw [signs_noplan hp] at h
    cases h
  | true =>
    obtain ⟨cs, g, rfl, pl⟩ := isPlan_ok hp
    cases hx : isWholeList x 60 0 ((cs.length : Int) - 1) with
    | false =>
      rw [signs_no pl hx] at h
      cases h
    | true =>
      obtain ⟨ss, rfl, tx⟩ := isText_ok hx
      exact ⟨cs, g, ss, rfl, pl, rfl, tx⟩
abbrev s_stepped : Stmt := topS 29
theorem sc_stepped : FnScope ["stretch", "plan", "sign"] ["stretch", "plan", "sign"] (defScope s_stepped) := ⟨rfl, rfl, rfl, by decide +kernel, rfl, by decide +kernel, by decide +kernel⟩

def sp_stepped (K : PySem.W.Frag) : Sp := fun vs H Q _ => ∃ (v u : V) (s : S3) (n : Nat) (cs : List Int) (g x : Int), vs = [v, u, .int x] ∧ Dp K H v s.d ∧ Dp K H u (planD cs g) ∧ s.Ok n ∧ n ≤ 100000 ∧ Plan cs g ∧ 0 ≤ x ∧ x < cs.length ∧ ∀ v' H', Same H H' → Dp K H' v' (.tuple [(s.by (belowOf cs x) (nth cs x) cs.sum).d, planD (grown cs g x) g]) → Q v' H'
theorem ok_stepped (F : FnP K "stepped" s_stepped f fd) (c_parted : Cal P w K mg base CX0 1 "parted" ["stretch", "one"] (sp_parted K)) (c_share : Cal P w K mg base (L2N.CX P w) 5 "share" ["plan", "sign"] (sp_share K)) (c_behind : Cal P w K mg base (L2N.CX P w) 5 "behind" ["plan", "sign"] (sp_behind K)) :
    FnOk P w K mg base CX0 6 f fd ["stretch", "plan", "sign"] (sp_stepped K) := by
  refine F.ok sc_stepped (fun vs H Q E h => ?_) (fun cdv A outer s H vs Q E hr h => ?_)
  · obtain ⟨_, _, _, _, _, _, _, rfl, _⟩ := h
    rfl
  · obtain ⟨v, u, s, n, cs, g, x, rfl, hv, hu, ok, hn, pl, h0, h1, k⟩ := h
    have hok : isWhole (.int x) 0 ((cs.length : Int) - 1) = true := by
      rw [isWhole_int, decide_eq_true h0, decide_eq_true (by omega)]
      rfl
    refine ⟨_, PSs.nox (pss_one (ps_ret (pe_tup (pa_cons (pe_f c_parted (hr.mono (by decide)) (pa_cons (pv 0) (pa_cons (pe_fN c_share (hr.mono (by decide)) (pa_cons (pv 1) (pa_cons (pv 2) pa_nil))) pa_nil))) (pa_cons (pe_fN c_behind (hr.mono (by decide)) (pa_cons (pv 1) (pa_cons (pv 2) pa_nil))) pa_nil))))), ?_⟩
    exact retD (evd_tup (eds_cons (evd_parted (evd_var rfl hv) (evd_X (d := shareD cs g x) (eds_cons (evd_var rfl hu) (eds_cons (evd_var rfl (.int x)) eds_nil)) rfl (sign_yes pl hok)) ok hn (plan_share pl h0 h1))
      (eds_cons (evd_X (d := behindD cs g x) (eds_cons (evd_var rfl hu) (eds_cons (evd_var rfl (.int x)) eds_nil)) rfl (sign_yes pl hok)) eds_nil)) (by show 2 ≤ 100000; omega)) fun v' H' s' d' => k v' H' s' d'
theorem evd_stepped {K : PySem.W.Frag} {ta tb tc : TE} {σ : L2.St} {H : Hp} {s : S3} {n : Nat} {cs : List Int} {g x : Int} (h : EvD K ta σ H s.d) (h2 : EvD K tb σ H (planD cs g)) (h3 : EvV tc σ H (.int x)) (ok : s.Ok n) (hn : n ≤ 100000) (pl : Plan cs g) (h0 : 0 ≤ x) (h1 : x < cs.length) :
    EvD K (tCall (sp_stepped K) [] E0 (tCons ta (tCons tb (tCons tc tNil)))) σ H (.tuple [(s.by (belowOf cs x) (nth cs x) cs.sum).d, planD (grown cs g x) g]) :=
  evd_call (eds_cons h (eds_cons h2 (eds_cons h3.int eds_nil))) fun vs H1 Q s1 d1 k => by
    obtain ⟨v, u, y, rfl, a1, a2, a3⟩ := dpaN3 d1
    cases dp_int a3
    exact ⟨_, _, s, n, cs, g, x, rfl, a1, a2, ok, hn, pl, h0, h1, k⟩
abbrev s_stretch_of : Stmt := topS 28
theorem sc_stretch_of : FnScope ["plan", "signs", "stretch", "sign"] ["plan", "signs"] (defScope s_stretch_of) := ⟨rfl, rfl, rfl, by decide +kernel, rfl, by decide +kernel, by decide +kernel⟩

def stretchF : List PyData → Except Err PyData
  | [d, x] => if isPlan d then (if isWholeList x 60 0 (((countsOf d).length : Int) - 1) then .ok (textS (countsOf d) (gainOf d) (itemsOf x)).d else .error .sign) else .error .plan
  | _ => .ok .none
abbrev sp_stretch_of (K : PySem.W.Frag) : Sp := PSpX K 2 stretchF
theorem stretch_noplan {d x : PyData} (h : isPlan d = false) : stretchF [d, x] = .error .plan := if_neg (by rw [h]; exact Bool.false_ne_true)
theorem stretch_no {cs : List Int} {g : Int} {x : PyData} (p : Plan cs g) (h : isWholeList x 60 0 ((cs.length : Int) - 1) = false) : stretchF [planD cs g, x] = .error .sign := by
  show (if isPlan (planD cs g) = true then _ else _) = _
  rw [if_pos (isPlan_of p), counts_planD, if_neg (by rw [h]; exact Bool.false_ne_true)]
theorem stretch_yes {cs : List Int} {g : Int} {ss : List Int} (p : Plan cs g) (h : Text cs.length ss) : stretchF [planD cs g, .list (ss.map PyData.int)] = .ok (textS cs g ss).d := by
  show (if isPlan (planD cs g) = true then _ else _) = _
  rw [if_pos (isPlan_of p), counts_planD, if_pos (isText_of h), gain_planD]
  show Except.ok (textS cs g ((ss.map PyData.int).map toI)).d = _
  rw [toI_map]
theorem signs_err {d x : PyData} {e : Err} (h : needSignsF [d, x] = .error e) : stretchF [d, x] = .error e := by
  cases hp : isPlan d with
  | false =>
    rw [signs_noplan hp] at h
    rw [stretch_noplan hp]
    exact h
  | true =>
    obtain ⟨cs, g, rfl, pl⟩ := isPlan_ok hp
    cases hx : isWholeList x 60 0 ((cs.length : Int) - 1) with
    | false =>
      rw [signs_no pl hx] at h
      rw [stretch_no pl hx]
      exact h
    | true =>
      rw [signs_yes pl hx] at h
      cases h
theorem ok_stretch_of (F : FnP K "stretch_of" s_stretch_of f fd) (c_need_signs : Cal P w K mg base (L2N.CX P w) 4 "need_signs" ["plan", "signs"] (sp_need_signs K)) (c_stepped : Cal P w K mg base CX0 6 "stepped" ["stretch", "plan", "sign"] (sp_stepped K)) (g_WHOLE : mg "WHOLE" = some (.ref (He.ga K "WHOLE"))) (t_WHOLE : ∀ H, SqT K H (He.ga K "WHOLE") [.int 0, .int 1, .int 1]) :
    FnOk P w K mg base (L2N.CX P w) 7 f fd ["plan", "signs"] (sp_stretch_of K) := by
  refine F.ok sc_stretch_of (fun vs H Q E h => len1 h) (fun cdv A outer s H vs Q E hr h => ?_)
  obtain ⟨ds, hds, hl, kQ, kE⟩ := h
  obtain ⟨d, x, rfl⟩ : ∃ d x, ds = [d, x] := match ds, hl with | [d, x], _ => ⟨d, x, rfl⟩
  cases hds with
  | cons hd hn =>
  cases hn with
  | cons hx hn =>
  cases hn
  rename_i v u
  refine ⟨_, (pss_hold (ps_expr (pe_fX c_need_signs (hr.mono (by decide)) (L2N.takes_of rfl rfl rfl rfl) (pa_cons (pv 0) (pa_cons (pv 1) pa_nil))))
      (pss_hold (ps_set (i := 2) sc_stretch_of.nd rfl (Or.inl rfl) (pe_glob (v := .ref _) rfl g_WHOLE rfl))
      (pss_hold (ps_for (passes_of rfl) rfl (pi_listK (K := K) rfl (pv 1)) (pg_name (i := 3) sc_stretch_of.nd rfl (.inl rfl)) (pss_one (ps_asg (pe_f c_stepped (hr.mono (by decide)) (pa_cons (pv 2) (pa_cons (pv 0) (pa_cons (pv 3) pa_nil)))) (pg_tupK (K := K) (n := 2) rfl rfl (pgs_cons (pg_name (i := 2) sc_stretch_of.nd rfl (.inl rfl)) (pgs_cons (pg_name (i := 0) sc_stretch_of.nd rfl (.inl rfl)) pgs_nil))))))
      (pss_one (ps_ret (pv 2)))))), ?_⟩
  refine dropX (eds_cons (evd_var rfl hd) (eds_cons (evd_var rfl hx) eds_nil)) rfl (fun r H1 hr s1 => ?_) (fun e H1 he s1 => ?_)
  · obtain ⟨cs, g, ss, rfl, pl, rfl, tx⟩ := signs_ok hr
    obtain ⟨a, xs, rfl, hs, hxs⟩ : ∃ a xs, u = .ref a ∧ SqL K H1 a xs ∧ xs = ss.map V.int := by
      cases dp_same s1 _ _ hx with
      | lst hs ha => exact ⟨_, _, rfl, hs, dpa_ints_eq ha⟩
    subst hxs
    have dv1 := dp_same s1 _ _ hd
    have hss : ∀ s ∈ ss, 0 ≤ s ∧ s < cs.length := fun s hs => by have := tx.2 s hs; omega
    refine hold (asgV ev_c fun H2 s2 => ?_)
    refine hold (forL (xs := ss.map V.int) (ev_var rfl) (s2.seq hs) (fun i σ' H' => ∃ v2 v3 y, σ' = [some v2, some (.ref a), some v3, y] ∧ Same H2 H' ∧ Dp K H' v2 (planD (after cs g (ss.take i)) g) ∧ Dp K H' v3 (textS cs g (ss.take i)).d)
      (fun H3 s3 => ⟨_, _, _, rfl, s3, dp_same (s2.trans s3) _ _ dv1, .tup (t_WHOLE H3) (.cons (.int 0) (.cons (.int 1) (.cons (.int 1) .nil)))⟩) (fun i σ' H' ⟨_, _, _, _, sm, _⟩ => (s2.trans sm).seq hs) ?_ ?_)
    · rintro i x σ' H' hi ⟨v2, v3, y, rfl, sm, h2, h3⟩
      obtain ⟨s, es, rfl⟩ : ∃ s, ss[i]? = some s ∧ x = V.int s := by
        rw [List.getElem?_map] at hi
        cases e : ss[i]? with
        | none => rw [e] at hi; cases hi
        | some s => rw [e] at hi; exact ⟨s, rfl, (Option.some.inj hi).symm⟩
      obtain ⟨pa, la⟩ := after_ok pl (ss := ss.take i) fun t ht => hss t (List.mem_of_mem_take ht)
      have hsm := hss s (List.mem_of_getElem? es)
      have eA := after_snoc cs g (ss.take i) s
      have eS := strOf_snoc g s (ss.take i) whole3 cs
      rw [← take_snoc es] at eA eS
      have ok1 : (textS cs g (ss.take i)).Ok 1400 := textS_ok pl ⟨by rw [List.length_take]; have := tx.1; omega, fun t ht => tx.2 t (List.mem_of_mem_take ht)⟩
      change textS cs g (ss.take (i + 1)) = (textS cs g (ss.take i)).by _ _ _ at eS
      generalize after cs g (ss.take i) = ca at h2 pa la eA eS
      generalize textS cs g (ss.take i) = st at h3 ok1 eS
      have h0 : 0 ≤ s := hsm.1
      have h1 : s < ca.length := by rw [la]; exact hsm.2
      refine unp2Lx (evd_stepped (evd_var rfl h3) (evd_var rfl h2) (ev_var rfl) ok1 (by omega) pa h0 h1) fun v4 v5 G1 r1 d4 d5 => ?_
      refine ⟨v5, v4, _, rfl, sm.trans r1, ?_, ?_⟩
      · rw [eA]
        exact d5
      · rw [eS]
        exact d4
    · rintro σ' H' ⟨v2, v3, y, rfl, sm, h2, h3⟩
      rw [List.length_map, List.take_length] at h3
      exact hold (retD (evd_var rfl h3) fun v4 H4 s4 d4 => kQ _ (stretch_yes pl tx) v4 H4 (((s1.trans s2).trans sm).trans s4) d4)
  · exact kE e (signs_err he) H1 s1
end

section
variable {P : Program} {w : World} {K : PySem.W.Frag} {mg : Str → Option Value} {base : Heap} {f : Addr} {fd : FuncData}
abbrev s_need_figures : Stmt := topS 30
theorem sc_need_figures : FnScope ["figures"] ["figures"] (defScope s_need_figures) := ⟨rfl, rfl, rfl, by decide +kernel, rfl, by decide +kernel, by decide +kernel⟩

def needFiguresF : List PyData → Except Err PyData
  | [x] => if isWholeList x 4000 0 1 then .ok .none else .error .figures
  | _ => .ok .none
abbrev sp_need_figures (K : PySem.W.Frag) : Sp := PSpX K 1 needFiguresF
theorem ok_need_figures (F : FnP K "need_figures" s_need_figures f fd) (c_is_whole_list : Cal P w K mg base CX0 3 "is_whole_list" ["values", "longest", "least", "most"] (sp_is_whole_list K)) (x_BadFigures : Exn K mg .figures) {u4 : Tok} (g_MOST_FIGURES : mg "MOST_FIGURES" = some (.int 4000 u4)) :
    FnOk P w K mg base (L2N.CX P w) 4 f fd ["figures"] (sp_need_figures K) := by
  refine F.ok sc_need_figures (fun vs H Q E h => len1 h) (fun cdv A outer s H vs Q E hr h => ?_)
  obtain ⟨ds, hds, hl, kQ, kE⟩ := h
  obtain ⟨d, rfl⟩ : ∃ d, ds = [d] := match ds, hl with | [d], _ => ⟨d, rfl⟩
  cases hds with
  | cons hd hn =>
  cases hn
  rename_i v
  refine ⟨_, (pss_one (ps_if (pt_not (pt_val (pe_f c_is_whole_list (hr.mono (by decide)) (pa_cons (pv 0) (pa_cons (pe_glob (v := .int 4000) rfl g_MOST_FIGURES ⟨_, rfl⟩) (pa_cons pe_int (pa_cons pe_int pa_nil))))))) (pss_one (L2N.ps_raise rfl (L2N.takes_of rfl rfl rfl rfl) (L2N.pmk_own PySem.F.excBase_ValueError x_BadFigures.x x_BadFigures.g x_BadFigures.k (raises_own x_BadFigures.b x_BadFigures.t) rfl))) pss_nil)), ?_⟩
  walk_at "rd"
  refine ⟨v, d, 4000, 0, 1, rfl, by decide, hd, fun H1 s1 => ⟨_, rfl, ?_⟩⟩
  have e0 : needFiguresF [d] = if isWholeList d 4000 0 1 = true then .ok .none else .error .figures := rfl
  cases ew : isWholeList d 4000 0 1 with
  | false =>
    rw [ew] at e0
    exact iteT (kE .figures e0 H1 s1)
  | true =>
    rw [ew] at e0
    exact iteF (kQ _ e0 .non H1 s1 .non)
abbrev s_lengthened : Stmt := topS 31
theorem sc_lengthened : FnScope ["stretch", "figures", "number", "wide", "parts", "figure"] ["stretch", "figures"] (defScope s_lengthened) := ⟨rfl, rfl, rfl, by decide +kernel, rfl, by decide +kernel, by decide +kernel⟩

def sp_lengthened (K : PySem.W.Frag) : Sp := fun vs H Q _ => ∃ (v u : V) (as fs : List Int), vs = [v, u] ∧ Dp K H v (figS as).d ∧ Dp K H u (.list (fs.map PyData.int)) ∧ ∀ v' H', Same H H' → Dp K H' v' (figS (as ++ fs)).d → Q v' H'
theorem ok_lengthened (F : FnP K "lengthened" s_lengthened f fd) : FnOk P w K mg base CX0 1 f fd ["stretch", "figures"] (sp_lengthened K) := by
  refine F.ok sc_lengthened (fun vs H Q E h => ?_) (fun cdv A outer s H vs Q E hr h => ?_)
  · obtain ⟨_, _, _, _, rfl, _⟩ := h
    rfl
  · obtain ⟨v, u, as, fs, rfl, hv, hx, k⟩ := h
    refine ⟨_, PSs.nox (pss_hold (ps_asg (pv 0) (pg_tupK (K := K) (n := 3) rfl rfl (pgs_cons (pg_name (i := 2) sc_lengthened.nd rfl (.inl rfl)) (pgs_cons (pg_name (i := 3) sc_lengthened.nd rfl (.inl rfl)) (pgs_cons (pg_name (i := 4) sc_lengthened.nd rfl (.inl rfl)) pgs_nil)))))
      (pss_hold (ps_for PassesOwn.never rfl (pi_listK (K := K) rfl (pv 1)) (pg_name (i := 5) sc_lengthened.nd rfl (.inl rfl)) (pss_hold (ps_set (i := 2) sc_lengthened.nd rfl (Or.inl rfl) (pe_op op_add (pe_op op_mul pe_int (pv 2)) (pv 5)))
      (pss_one (ps_set (i := 4) sc_lengthened.nd rfl (Or.inl rfl) (pe_op op_mul pe_int (pv 4))))))
      (pss_one (ps_ret (pe_tup (pa_cons (pv 2) (pa_cons (pv 3) (pa_cons (pv 4) pa_nil)))))))), ?_⟩
    obtain ⟨a, xs, rfl, hs, hxs⟩ : ∃ a xs, u = .ref a ∧ SqL K H a xs ∧ xs = fs.map V.int := by
      cases hx with
      | lst hs ha => exact ⟨_, _, rfl, hs, dpa_ints_eq ha⟩
    subst hxs
    refine unpS (evd_var rfl hv) fun H1 s1 => ?_
    refine hold (forL (xs := fs.map V.int) (ev_var rfl) (s1.seq hs) (fun i σ' H' => ∃ y, σ' = [some v, some (.ref a), some (.int (numOf (as ++ fs.take i))), some (.int 1), some (.int (2 ^ (as.length + i))), y] ∧ Same H1 H')
      (fun H4 s4 => ⟨_, by rw [List.take_zero, List.append_nil]; rfl, s4⟩) (fun i σ' H' ⟨_, _, sm⟩ => (s1.trans sm).seq hs) ?_ ?_)
    · rintro i x σ' H' hi ⟨y, rfl, sm⟩
      obtain ⟨b, eb, rfl⟩ := get_int hi
      refine asgV (ev_op0 (ev_op ev_c (ev_var rfl) (cmul_l (by omega))) (ev_var rfl)) fun G1 r1 => hold (asgLast (ev_op ev_c (ev_var rfl) (cmul_l (by omega))) fun G2 r2 => ?_)
      refine ⟨some (.int b), ?_, (sm.trans r1).trans r2⟩
      rw [numOf_moreX as fs i eb, ← Nat.add_assoc, Int.pow_succ, Int.mul_comm (2 ^ (as.length + i)) 2]
      rfl
    · rintro σ' H' ⟨y, rfl, sm⟩
      rw [List.length_map, List.take_length]
      refine hold (retD (d := (figS (as ++ fs)).d) (EvD.is (evd_tup (eds_cons (evd_var rfl (.int _)) (eds_cons (evd_var rfl (.int _)) (eds_cons (evd_var rfl (.int _)) eds_nil))) (by show 3 ≤ 100000; omega)) ?_) fun v4 H4 s4 d4 => k v4 H4 ((s1.trans sm).trans s4) d4)
      unfold figS S3.d
      rw [List.length_append]
theorem evd_lengthened {K : PySem.W.Frag} {ta tb : TE} {σ : L2.St} {H : Hp} {as fs : List Int} (h : EvD K ta σ H (figS as).d) (h2 : EvD K tb σ H (.list (fs.map PyData.int))) : EvD K (tCall (sp_lengthened K) [] E0 (tCons ta (tCons tb tNil))) σ H (figS (as ++ fs)).d :=
  evd_call (eds_cons h (eds_cons h2 eds_nil)) fun vs H1 Q s1 d1 k => by
    obtain ⟨v, u, rfl, a1, a2⟩ := dpaN2 d1
    exact ⟨_, _, as, fs, rfl, a1, a2, k⟩
end

section
variable {P : Program} {w : World} {K : PySem.W.Frag} {mg : Str → Option Value} {base : Heap} {f : Addr} {fd : FuncData}
abbrev s__law_stretch : Stmt := topS 49
theorem sc__law_stretch : FnScope ["_law_plan_here", "_law_signs_here", "_law_low", "_law_wide", "_law_whole_here", "_law_sign", "_law_total"] ["_law_plan_here", "_law_signs_here"] (defScope s__law_stretch) := ⟨rfl, rfl, rfl, by decide +kernel, rfl, by decide +kernel, by decide +kernel⟩

def sp_lstretch (K : PySem.W.Frag) : Sp := fun vs H Q _ => ∃ (v u : V) (cs : List Int) (g : Int) (ss : List Int), vs = [v, u] ∧ Dp K H v (planD cs g) ∧ Plan cs g ∧ Dp K H u (.list (ss.map PyData.int)) ∧ Text cs.length ss ∧ ∀ v' H', Same H H' → Dp K H' v' (textS cs g ss).d → Q v' H'
theorem ok_lstretch (F : FnP K "_law_stretch" s__law_stretch f fd) (c__law_behind : Cal P w K mg base CX0 1 "_law_behind" ["_law_plan_here", "_law_sign"] (sp_lbehind K)) (z_sum : mg "sum" = none) : FnOk P w K mg base CX0 2 f fd ["_law_plan_here", "_law_signs_here"] (sp_lstretch K) := by
  refine F.ok sc__law_stretch (fun vs H Q E h => ?_) (fun cdv A outer s H vs Q E hr h => ?_)
  · obtain ⟨_, _, _, _, _, rfl, _⟩ := h
    rfl
  · obtain ⟨v, u, cs, g, ss, rfl, hd, pl, hx, tx, q⟩ := h
    refine ⟨_, PSs.nox (pss_hold (ps_asg (pe_tup (pa_cons pe_int (pa_cons pe_int (pa_cons pe_int pa_nil)))) (pg_tupK (K := K) (n := 3) rfl rfl (pgs_cons (pg_name (i := 2) sc__law_stretch.nd rfl (.inl rfl)) (pgs_cons (pg_name (i := 3) sc__law_stretch.nd rfl (.inl rfl)) (pgs_cons (pg_name (i := 4) sc__law_stretch.nd rfl (.inl rfl)) pgs_nil)))))
      (pss_hold (ps_for PassesOwn.never rfl (pi_listK (K := K) rfl (pv 1)) (pg_name (i := 5) sc__law_stretch.nd rfl (.inl rfl)) (pss_hold (ps_set (i := 6) sc__law_stretch.nd rfl (Or.inl rfl) (pe_callB (sumTK (K := K) rfl rfl) (by rfl) z_sum (by decide +kernel) (pa_cons (pe_ix (ix_tupK (K := K) rfl) (pv 0) pe_int (fun _ _ => rfl)) pa_nil)))
      (pss_hold (ps_set (i := 2) sc__law_stretch.nd rfl (Or.inl rfl) (pe_op op_add (pe_op op_mulW (pv 2) (pv 6)) (pe_op op_mulW (pv 3) (pe_callB (sumTK (K := K) rfl rfl) (by rfl) z_sum (by decide +kernel) (pa_cons (pe_slice (sl_tupK (K := K) rfl) (pe_ix (ix_tupK (K := K) rfl) (pv 0) pe_int (fun _ _ => rfl)) po_none (po_some (pv 5))) pa_nil)))))
      (pss_hold (ps_set (i := 3) sc__law_stretch.nd rfl (Or.inl rfl) (pe_op op_mulW (pv 3) (pe_ix (ix_tupK (K := K) rfl) (pe_ix (ix_tupK (K := K) rfl) (pv 0) pe_int (fun _ _ => rfl)) (pv 5) (fun _ _ => rfl))))
      (pss_hold (ps_set (i := 4) sc__law_stretch.nd rfl (Or.inl rfl) (pe_op op_mulW (pv 4) (pv 6)))
      (pss_one (ps_set (i := 0) sc__law_stretch.nd rfl (Or.inl rfl) (pe_f c__law_behind (hr.mono (by decide)) (pa_cons (pv 0) (pa_cons (pv 5) pa_nil))))))))))
      (pss_one (ps_ret (pe_tup (pa_cons (pv 2) (pa_cons (pv 3) (pa_cons (pv 4) pa_nil)))))))), ?_⟩
    obtain ⟨a, xs, rfl, hs, hxs⟩ : ∃ a xs, u = .ref a ∧ SqL K H a xs ∧ xs = ss.map V.int := by
      cases hx with
      | lst hs ha => exact ⟨_, _, rfl, hs, dpa_ints_eq ha⟩
    subst hxs
    have hss : ∀ s ∈ ss, 0 ≤ s ∧ s < cs.length := fun s hs => by have := tx.2 s hs; omega
    refine unpS (s := whole3) (evd_tup (eds_cons evd_int (eds_cons evd_int (eds_cons evd_int eds_nil))) (by show 3 ≤ 100000; omega)) fun H1 s1 => ?_
    refine hold (forL (xs := ss.map V.int) (ev_var rfl) (s1.seq hs) (fun i σ' H' => ∃ v2 y1 y2, σ' = [some v2, some (.ref a), some (.int (textS cs g (ss.take i)).l), some (.int (textS cs g (ss.take i)).w), some (.int (textS cs g (ss.take i)).t), y1, y2] ∧ Same H1 H' ∧ Dp K H' v2 (planD (after cs g (ss.take i)) g))
      (fun H3 s3 => ⟨_, _, _, rfl, s3, dp_same (s1.trans s3) _ _ hd⟩) (fun i σ' H' ⟨_, _, _, _, sm, _⟩ => (s1.trans sm).seq hs) ?_ ?_)
    · rintro i x σ' H' hi ⟨v2, y1, y2, rfl, sm, h2⟩
      obtain ⟨s, es, rfl⟩ := get_int hi
      obtain ⟨pa, la⟩ := after_ok pl (ss := ss.take i) fun t ht => hss t (List.mem_of_mem_take ht)
      have hsm := hss s (List.mem_of_getElem? es)
      have eA := after_snoc cs g (ss.take i) s
      have eS := strOf_snoc g s (ss.take i) whole3 cs
      rw [← take_snoc es] at eA eS
      have ok1 : (textS cs g (ss.take i)).Ok 1400 := textS_ok pl ⟨by rw [List.length_take]; have := tx.1; omega, fun t ht => tx.2 t (List.mem_of_mem_take ht)⟩
      change textS cs g (ss.take (i + 1)) = (textS cs g (ss.take i)).by _ _ _ at eS
      generalize after cs g (ss.take i) = ca at h2 pa la eA eS
      generalize textS cs g (ss.take i) = st at ok1 eS ⊢
      have h0 : 0 ≤ s := hsm.1
      have h1 : s < ca.length := by rw [la]; exact hsm.2
      have sa := (plan_share pa h0 h1).abs
      have hnth := data_nth h0 h1
      refine asgV (ev_sumT (evd_ixT (ds := [.tuple (ca.map PyData.int), .int g]) (n := 0) (evd_var rfl h2) ev_c (by decide) rfl)) fun G1 r1 => ?_
      have h3 := dp_same r1 _ _ h2
      refine hold (asgV (ev_op0 (ev_op (ev_var rfl) (ev_var rfl) (wmul ok1.labs sa.2.2 (by omega))) (ev_op (ev_var rfl) (ev_sumT (evd_takeI (evd_ixT (ds := [.tuple (ca.map PyData.int), .int g]) (n := 0) (evd_var rfl h3) ev_c (by decide) rfl) (ev_var rfl) h0 (by omega))) (wmul ok1.wabs sa.1 (by omega)))) fun G2 r2 => ?_)
      have h4 := dp_same r2 _ _ h3
      refine hold (asgV (ev_op (ev_var rfl) (EvD.v_int (evd_ixT (evd_ixT (ds := [.tuple (ca.map PyData.int), .int g]) (n := 0) (evd_var rfl h4) ev_c (by decide) rfl) (ev_var rfl) h0 hnth)) (wmul ok1.wabs sa.2.1 (by omega))) fun G3 r3 => ?_)
      refine hold (asgV (ev_op (ev_var rfl) (ev_var rfl) (wmul ok1.tabs sa.2.2 (by omega))) fun G4 r4 => ?_)
      refine hold (asgLastD (evd_lbehind (evd_var rfl (dp_same (r3.trans r4) _ _ h4)) (ev_var rfl) pa h0 h1) fun v5 G5 r5 d5 => ?_)
      refine ⟨v5, some (.int s), some (.int ca.sum), ?_, ((((sm.trans r1).trans r2).trans r3).trans r4).trans r5, ?_⟩
      · rw [eS]
        rfl
      · rw [eA]
        exact d5
    · rintro σ' H' ⟨v2, y1, y2, rfl, sm, h2⟩
      rw [List.length_map, List.take_length]
      exact hold (retD (d := (textS cs g ss).d) (evd_tup (eds_cons (evd_var rfl (.int _)) (eds_cons (evd_var rfl (.int _)) (eds_cons (evd_var rfl (.int _)) eds_nil))) (by show 3 ≤ 100000; omega)) fun v4 H4 s4 d4 => q v4 H4 ((s1.trans sm).trans s4) d4)
abbrev s__law_within : Stmt := topS 50
theorem sc__law_within : FnScope ["_law_one", "_law_other", "_law_first", "_law_last"] ["_law_one", "_law_other"] (defScope s__law_within) := ⟨rfl, rfl, rfl, by decide +kernel, rfl, by decide +kernel, by decide +kernel⟩

theorem ok_lwithin (F : FnP K "_law_within" s__law_within f fd) : FnOk P w K mg base CX0 1 f fd ["_law_one", "_law_other"] (sp_within K) := by
  refine F.ok sc__law_within (fun vs H Q E h => ?_) (fun cdv A outer s H vs Q E hr h => ?_)
  · obtain ⟨_, _, _, _, _, _, rfl, _⟩ := h
    rfl
  · obtain ⟨v, u, s, t, n, m, rfl, hv, hu, ok, ok2, hn, k⟩ := h
    refine ⟨_, PSs.nox (pss_hold (ps_set (i := 2) sc__law_within.nd rfl (Or.inl rfl) (pe_op op_sub (pe_op op_mulW (pe_ix (ix_tupK (K := K) rfl) (pv 0) pe_int (fun _ _ => rfl)) (pe_ix (ix_tupK (K := K) rfl) (pv 1) pe_int (fun _ _ => rfl))) (pe_op op_mulW (pe_ix (ix_tupK (K := K) rfl) (pv 1) pe_int (fun _ _ => rfl)) (pe_ix (ix_tupK (K := K) rfl) (pv 0) pe_int (fun _ _ => rfl)))))
      (pss_hold (ps_set (i := 3) sc__law_within.nd rfl (Or.inl rfl) (pe_op op_sub (pe_op op_mulW (pe_op op_add (pe_ix (ix_tupK (K := K) rfl) (pv 1) pe_int (fun _ _ => rfl)) (pe_ix (ix_tupK (K := K) rfl) (pv 1) pe_int (fun _ _ => rfl))) (pe_ix (ix_tupK (K := K) rfl) (pv 0) pe_int (fun _ _ => rfl))) (pe_op op_mulW (pe_op op_add (pe_ix (ix_tupK (K := K) rfl) (pv 0) pe_int (fun _ _ => rfl)) (pe_ix (ix_tupK (K := K) rfl) (pv 0) pe_int (fun _ _ => rfl))) (pe_ix (ix_tupK (K := K) rfl) (pv 1) pe_int (fun _ _ => rfl)))))
      (pss_one (ps_ret (pe_and (pe_cmpR op_ge (pv 2) pe_int (nomark _)) (pe_one (pe_cmpR op_ge (pv 3) pe_int (nomark _)))))))), ?_⟩
    have ix : ∀ (j : Nat) {H1 : Hp} {σ : L2.St} {i : Nat} {x : V} {r : S3} (z : Int), σ[i]? = some (some x) → Dp K H1 x r.d → [PyData.int r.l, .int r.w, .int r.t][j]? = some (.int z) → EvV (tOp (rIxT K) (tVar i) (tC (.int (j : Int)))) σ H1 (.int z) := fun j _ _ _ _ _ z e d h =>
      EvD.v_int (evd_ixT (evd_var e d) ev_c (by omega) (by rw [Int.toNat_natCast]; exact h))
    refine asgV (ev_op0 (ev_op (ix 0 s.l rfl hv rfl) (ix 2 t.t rfl hu rfl) (wmul ok.labs ok2.tabs (by omega))) (ev_op (ix 0 t.l rfl hu rfl) (ix 2 s.t rfl hv rfl) (wmul ok2.labs ok.tabs (by omega)))) fun H1 s1 => ?_
    have hv1 := dp_same s1 _ _ hv
    have hu1 := dp_same s1 _ _ hu
    refine hold (asgV (ev_op0 (ev_op (ev_op0 (ix 0 t.l rfl hu1 rfl) (ix 1 t.w rfl hu1 rfl)) (ix 2 s.t rfl hv1 rfl) (wmul ok2.lwabs ok.tabs (by omega))) (ev_op (ev_op0 (ix 0 s.l rfl hv1 rfl) (ix 1 s.w rfl hv1 rfl)) (ix 2 t.t rfl hu1 rfl) (wmul ok.lwabs ok2.tabs (by omega)))) fun H2 s2 => ?_)
    refine hold (retV (v := .bl (withinB s t)) (EvV.is (ev_and (ev_op0 (ev_var rfl) ev_c) fun _ => ev_op0 (ev_var rfl) ev_c) ?_) fun H3 s3 => k H3 ((s1.trans s2).trans s3))
    unfold withinB
    congr 1
    rw [Bool.eq_iff_iff]
    simp only [Bool.and_eq_true, Bool.not_eq_true', decide_eq_true_eq, decide_eq_false_iff_not]
    omega
end
section
variable {P : Program} {w : World} {K : PySem.W.Frag} {mg : Str → Option Value} {base : Heap} {f fW : Addr} {fd fdW : FuncData}
theorem evd_lstretch {ta tb : TE} {σ : L2.St} {H : Hp} {cs ss : List Int} {g : Int} (h : EvD K ta σ H (planD cs g)) (h2 : EvD K tb σ H (.list (ss.map PyData.int))) (pl : Plan cs g) (tx : Text cs.length ss) : EvD K (tCall (sp_lstretch K) [] E0 (tCons ta (tCons tb tNil))) σ H (textS cs g ss).d :=
  evd_call (eds_cons h (eds_cons h2 eds_nil)) fun vs H1 Q s1 d1 k => by
    cases d1 with
    | cons a1 a2 => cases a2 with
      | cons a2 a3 =>
        cases a3
        exact ⟨_, _, cs, g, ss, rfl, a1, pl, a2, tx, k⟩
abbrev s__law_figured : Stmt := topS 51
theorem sc__law_figured : FnScope ["_law_figures", "_law_number", "_law_whole_here", "_law_figure"] ["_law_figures"] (defScope s__law_figured) := ⟨rfl, rfl, rfl, by decide +kernel, rfl, by decide +kernel, by decide +kernel⟩

def sp_lfigured (K : PySem.W.Frag) : Sp := fun vs H Q _ => ∃ (u : V) (fs : List Int), vs = [u] ∧ Dp K H u (.list (fs.map PyData.int)) ∧ ∀ v' H', Same H H' → Dp K H' v' (figS fs).d → Q v' H'
theorem ok_lfigured (F : FnP K "_law_figured" s__law_figured f fd) : FnOk P w K mg base CX0 1 f fd ["_law_figures"] (sp_lfigured K) := by
  refine F.ok sc__law_figured (fun vs H Q E h => ?_) (fun cdv A outer s H vs Q E hr h => ?_)
  · obtain ⟨_, _, rfl, _⟩ := h
    rfl
  · obtain ⟨u, fs, rfl, hx, q⟩ := h
    refine ⟨_, PSs.nox (pss_hold (ps_set (i := 1) sc__law_figured.nd rfl (Or.inl rfl) pe_int)
      (pss_hold (ps_set (i := 2) sc__law_figured.nd rfl (Or.inl rfl) pe_int)
      (pss_hold (ps_for PassesOwn.never rfl (pi_listK (K := K) rfl (pv 0)) (pg_name (i := 3) sc__law_figured.nd rfl (.inl rfl)) (pss_hold (ps_set (i := 1) sc__law_figured.nd rfl (Or.inl rfl) (pe_op op_add (pe_op op_mul pe_int (pv 1)) (pv 3)))
      (pss_one (ps_set (i := 2) sc__law_figured.nd rfl (Or.inl rfl) (pe_op op_mul pe_int (pv 2))))))
      (pss_one (ps_ret (pe_tup (pa_cons (pv 1) (pa_cons pe_int (pa_cons (pv 2) pa_nil))))))))), ?_⟩
    obtain ⟨a, xs, rfl, hs, hxs⟩ : ∃ a xs, u = .ref a ∧ SqL K H a xs ∧ xs = fs.map V.int := by
      cases hx with
      | lst hs ha => exact ⟨_, _, rfl, hs, dpa_ints_eq ha⟩
    subst hxs
    refine asgV ev_c fun H2 s2 => hold (asgV ev_c fun H3 s3 => ?_)
    have t3 := s2.trans s3
    refine hold (forL (xs := fs.map V.int) (ev_var rfl) (t3.seq hs) (fun i σ' H' => ∃ y, σ' = [some (.ref a), some (.int (numOf (fs.take i))), some (.int (2 ^ i)), y] ∧ Same H3 H')
      (fun H4 s4 => ⟨_, rfl, s4⟩) (fun i σ' H' ⟨_, _, sm⟩ => (t3.trans sm).seq hs) ?_ ?_)
    · rintro i x σ' H' hi ⟨y, rfl, sm⟩
      obtain ⟨b, eb, rfl⟩ := get_int hi
      have eN := numOf_snoc (fs.take i) b
      rw [← take_snoc eb] at eN
      refine asgV (ev_op0 (ev_op ev_c (ev_var rfl) (cmul_l (by omega))) (ev_var rfl)) fun G1 r1 => hold (asgLast (ev_op ev_c (ev_var rfl) (cmul_l (by omega))) fun G2 r2 => ?_)
      refine ⟨some (.int b), ?_, (sm.trans r1).trans r2⟩
      rw [eN, Int.pow_succ, Int.mul_comm (2 ^ i) 2]
      rfl
    · rintro σ' H' ⟨y, rfl, sm⟩
      rw [List.length_map, List.take_length]
      exact hold (retD (d := (figS fs).d) (evd_tup (eds_cons (evd_var rfl (.int _)) (eds_cons evd_int (eds_cons (evd_var rfl (.int _)) eds_nil))) (by show 3 ≤ 100000; omega)) fun v4 H4 s4 d4 => q v4 H4 ((t3.trans sm).trans s4) d4)
theorem evd_lfigured {ta : TE} {σ : L2.St} {H : Hp} {fs : List Int} (h : EvD K ta σ H (.list (fs.map PyData.int))) : EvD K (tCall (sp_lfigured K) [] E0 (tCons ta tNil)) σ H (figS fs).d :=
  evd_call (eds_cons h eds_nil) fun vs H1 Q s1 d1 k => by
    cases d1 with
    | cons a1 a2 =>
      cases a2
      exact ⟨_, fs, rfl, a1, k⟩
end

section
variable {P : Program} {w : World} {K : PySem.W.Frag} {mg : Str → Option Value} {base : Heap} {f : Addr} {fd : FuncData}
abbrev s__fewest : Stmt := topS 39
theorem sc__fewest : FnScope ["stretch", "_", "wide", "parts", "many"] ["stretch"] (defScope s__fewest) := ⟨rfl, rfl, rfl, by decide +kernel, rfl, by decide +kernel, by decide +kernel⟩

def sp_fewest (K : PySem.W.Frag) : Sp := fun vs H Q _ => ∃ (v : V) (s : S3), vs = [v] ∧ Dp K H v s.d ∧ s.Good ∧ ∀ k H', WideK s k → Same H H' → Q (.int (k : Int)) H'
theorem ok_fewest (F : FnP K "_fewest" s__fewest f fd) : FnOk P w K mg base CX0 1 f fd ["stretch"] (sp_fewest K) := by
  refine F.ok sc__fewest (fun vs H Q E h => ?_) (fun cdv A outer s H vs Q E hr h => ?_)
  · obtain ⟨_, _, rfl, _⟩ := h
    rfl
  · obtain ⟨v, s, rfl, hv, gd, q⟩ := h
    refine ⟨_, PSs.nox (pss_hold (ps_asg (pv 0) (pg_tupK (K := K) (n := 3) rfl rfl (pgs_cons (pg_name (i := 1) sc__fewest.nd rfl (.inl rfl)) (pgs_cons (pg_name (i := 2) sc__fewest.nd rfl (.inl rfl)) (pgs_cons (pg_name (i := 3) sc__fewest.nd rfl (.inl rfl)) pgs_nil)))))
      (pss_hold (ps_set (i := 4) sc__fewest.nd rfl (Or.inl rfl) pe_int)
      (pss_hold (ps_while PassesOwn.never (pt_cmpR op_lt (pv 2) (pv 3) (nomark _)) (pss_hold (ps_set (i := 2) sc__fewest.nd rfl (Or.inl rfl) (pe_op op_mul pe_int (pv 2)))
      (pss_one (ps_aug (i := 4) sc__fewest.nd rfl (Or.inl rfl) pe_int ip_add))))
      (pss_one (ps_ret (pv 4)))))), ?_⟩
    refine unpS (evd_var rfl hv) fun H1 s1 => hold (asgV ev_c fun H2 s2 => hold ?_)
    refine whileI (fun n σ' H' => ∃ k : Nat, σ' = [some v, some (.int s.l), some (.int (s.w * 2 ^ k)), some (.int s.t), some (.int (k : Int))] ∧ Same H2 H' ∧ (∀ j, j < k → s.w * 2 ^ j < s.t) ∧ n = (s.t - s.w * 2 ^ k).toNat) _ ⟨0, by rw [Int.pow_zero, Int.mul_one]; rfl, Same.refl _, fun j hj => absurd hj (Nat.not_lt_zero j), rfl⟩ ?_
    rintro n σ' H' ⟨k, rfl, sm, lt, rfl⟩
    refine ⟨decide (s.w * 2 ^ k < s.t), evb_test (ev_op0 (g := fun i j => V.bl (decide (i < j))) (ev_var rfl) (ev_var rfl)), fun c H3 s3 => ?_, fun c H3 s3 => ?_⟩
    · have hlt := of_decide_eq_true c
      refine asgV (ev_op ev_c (ev_var rfl) (cmul_l (by omega))) fun H4 s4 => hold ?_
      refine ⟨_, rfl, _, _, rfl, rfl, _, ?_, k + 1, ?_, (sm.trans s3).trans s4, fun j hj => ?_, rfl⟩
      · have p := pow2_pos k
        have m := Int.mul_le_mul_of_nonneg_right gd.w1 (show (0 : Int) ≤ 2 ^ k by omega)
        rw [Int.pow_succ, ← Int.mul_assoc]
        omega
      · have e2 : s.w * 2 ^ (k + 1) = 2 * (s.w * 2 ^ k) := by rw [Int.pow_succ, ← Int.mul_assoc, Int.mul_comm]
        rw [e2, Int.natCast_add]
        rfl
      · rcases Nat.lt_or_ge j k with z | z
        · exact lt j z
        · have e : j = k := by omega
          rw [e]
          exact hlt
    · have hge := of_decide_eq_false c
      exact hold (retV (ev_var rfl) fun H4 s4 => q k H4 ⟨by omega, lt⟩ ((((s1.trans s2).trans sm).trans s3).trans s4))
abbrev s__first_number : Stmt := topS 40
theorem sc__first_number : FnScope ["stretch", "many", "low", "_", "parts"] ["stretch", "many"] (defScope s__first_number) := ⟨rfl, rfl, rfl, by decide +kernel, rfl, by decide +kernel, by decide +kernel⟩

def sp_first (K : PySem.W.Frag) : Sp := fun vs H Q _ => ∃ (v : V) (s : S3) (n k : Nat), vs = [v, .int (k : Int)] ∧ Dp K H v s.d ∧ s.Ok n ∧ 0 < n ∧ n ≤ 9000 ∧ k ≤ 9000 ∧ ∀ H', Same H H' → Q (.int (firstK s k)) H'
theorem ok_first (F : FnP K "_first_number" s__first_number f fd) : FnOk P w K mg base CX0 1 f fd ["stretch", "many"] (sp_first K) := by
  refine F.ok sc__first_number (fun vs H Q E h => ?_) (fun cdv A outer s H vs Q E hr h => ?_)
  · obtain ⟨_, _, _, _, rfl, _⟩ := h
    rfl
  · obtain ⟨v, s, n, k, rfl, hv, ok, h0, hn, hk, q⟩ := h
    refine ⟨_, PSs.nox (pss_hold (ps_asg (pv 0) (pg_tupK (K := K) (n := 3) rfl rfl (pgs_cons (pg_name (i := 2) sc__first_number.nd rfl (.inl rfl)) (pgs_cons (pg_name (i := 3) sc__first_number.nd rfl (.inl rfl)) (pgs_cons (pg_name (i := 4) sc__first_number.nd rfl (.inl rfl)) pgs_nil)))))
      (pss_one (ps_ret (pe_op op_fdivW (pe_op op_sub (pe_op op_add (pe_op op_shlP (pv 2) (pv 1)) (pv 4)) pe_int) (pv 4))))), ?_⟩
    refine unpS (evd_var rfl hv) fun H1 s1 => hold (retV (v := .int (firstK s k)) (EvV.is (ev_op (C := CDivW) (g := fun i j => V.int (i / j)) (ev_op0 (ev_op0 (ev_shl (ev_var rfl) (ev_var rfl) (shl_ok ok.labs (by omega))) (ev_var rfl)) ev_c) (ev_var rfl) (wide_div (by have := ok.t1; omega) ok.tabs h0 hn)) rfl) fun H2 s2 => q H2 (s1.trans s2))
abbrev s__by_twos : Stmt := topS 41
theorem sc__by_twos : FnScope ["number", "many", "place"] ["number", "many"] (defScope s__by_twos) := ⟨rfl, rfl, rfl, by decide +kernel, rfl, by decide +kernel, by decide +kernel⟩

def sp_by_twos (K : PySem.W.Frag) : Sp := fun vs H Q _ => ∃ (x : Int) (k : Nat), vs = [.int x, .int (k : Int)] ∧ k ≤ 9000 ∧ ∀ p H', H p = none → Same H H' → H' p = some (.lst ((bitsOf k x).map V.int)) → Q (.ref p) H'
theorem ok_by_twos (F : FnP K "_by_twos" s__by_twos f fd) (z_range : mg "range" = none) (z_reversed : mg "reversed" = none) : FnOk P w K mg base CX0 1 f fd ["number", "many"] (sp_by_twos K) := by
  refine F.ok sc__by_twos (fun vs H Q E h => ?_) (fun cdv A outer s H vs Q E hr h => ?_)
  · obtain ⟨_, _, rfl, _⟩ := h
    rfl
  · obtain ⟨x, k, rfl, hk, q⟩ := h
    refine ⟨_, PSs.nox (pss_one (ps_ret (pe_lc (own := [("place", 2)]) (g := gName 2) rfl sc__by_twos.nd (pi_revR rfl z_reversed (prg_1 rfl z_range (pv 1))) (blkOk_by (own := [("place", 2)]) (N := ["number", "many", "place"]) (sc := defScope s__by_twos) (by decide +kernel)) (fun _ _ _ _ _ => pg_name (i := 2) sc__by_twos.nd rfl (Or.inl rfl)) (fun _ _ _ _ _ => pts_nil) (fun _ _ _ _ _ => (pe_op op_and1 (pe_op op_shrP (pv 0) (pv 2)) pe_int))))), ?_⟩
    refine evo_lcV (K := K) (m := k) (fun n => .int (x / 2 ^ (k - 1 - n) % 2)) (ev_var rfl) (by omega) (fun n H1 D R hn s1 hacc s2 kk => ?_) H _ (Same.refl _) fun p vs H1 np s1 e1 d1 => ?_
    · exact (ev_and1 (ev_shr (ev_var rfl) (ev_var rfl)) ev_c) H1 R (Same.refl _) fun H2 s3 => kk _ H2 s3 (.int _)
    · have ev : vs = (bitsOf k x).map V.int := dpa_ints_eq (by rw [bitsOf_map, List.map_map]; exact d1)
      rw [ev] at e1
      exact q p H1 np s1 e1
theorem ev_fewest {te : TE} {σ : L2.St} {H : Hp} {s : S3} {u : TS} {D : Ends} {i : Nat} (h : EvD K te σ H s.d) (gd : s.Good) (k : ∀ n H1, WideK s n → Same H H1 → u D (σ.set i (some (.int (n : Int)))) H1) : tSeq (tAsg (tCall (sp_fewest K) [] E0 (tCons te tNil)) (gName i)) u D σ H :=
  h H _ (Same.refl H) fun v H1 s1 d1 => ⟨v, s, rfl, d1, gd, fun n H2 hn s2 => k n H2 hn (s1.trans s2)⟩
theorem ev_first {ta tb : TE} {σ : L2.St} {H : Hp} {s : S3} {n k : Nat} (h : EvD K ta σ H s.d) (hk : EvV tb σ H (.int (k : Int))) (ok : s.Ok n) (h0 : 0 < n) (hn : n ≤ 9000) (hl : k ≤ 9000) : EvV (tCall (sp_first K) [] E0 (tCons ta (tCons tb tNil))) σ H (.int (firstK s k)) :=
  evv_call (eds_cons h (eds_cons hk.int eds_nil)) fun vs H1 Q s1 d1 q => by
    obtain ⟨v, u, rfl, a1, a2⟩ := dpaN2 d1
    cases dp_int a2
    exact ⟨_, s, n, k, rfl, a1, ok, h0, hn, hl, q⟩
theorem evo_by_twos {ta tb : TE} {σ : L2.St} {H : Hp} {x : Int} {k : Nat} (h : EvV ta σ H (.int x)) (hk : EvV tb σ H (.int (k : Int))) (hl : k ≤ 9000) : EvO K (tCall (sp_by_twos K) [] E0 (tCons ta (tCons tb tNil))) σ H ((bitsOf k x).map PyData.int) :=
  evo_call (eds_cons h.int (eds_cons hk.int eds_nil)) fun vs H1 Q s1 d1 q => by
    obtain ⟨v, u, rfl, a1, a2⟩ := dpaN2 d1
    cases dp_int a1
    cases dp_int a2
    exact ⟨x, k, rfl, hl, fun p H2 np s2 e2 => q p _ H2 np s2 e2 (dpa_ints _)⟩
abbrev s_figures_in : Stmt := topS 37
theorem sc_figures_in : FnScope ["stretch", "many", "number"] ["stretch"] (defScope s_figures_in) := ⟨rfl, rfl, rfl, by decide +kernel, rfl, by decide +kernel, by decide +kernel⟩

def sp_figures_in (K : PySem.W.Frag) : Sp := fun vs H Q _ => ∃ (v : V) (s : S3) (n : Nat), vs = [v] ∧ Dp K H v s.d ∧ s.Ok n ∧ 0 < n ∧ n ≤ 5000 ∧ ∀ p H', H p = none → Same H H' → H' p = some (.lst ((figsIn s).map V.int)) → Q (.ref p) H'
theorem ok_figures_in (F : FnP K "figures_in" s_figures_in f fd) (c__fewest : Cal P w K mg base CX0 1 "_fewest" ["stretch"] (sp_fewest K)) (c__first_number : Cal P w K mg base CX0 1 "_first_number" ["stretch", "many"] (sp_first K)) (c__by_twos : Cal P w K mg base CX0 1 "_by_twos" ["number", "many"] (sp_by_twos K))
    (c_within : Cal P w K mg base CX0 1 "within" ["one", "other"] (sp_within K)) : FnOk P w K mg base CX0 2 f fd ["stretch"] (sp_figures_in K) := by
  refine F.ok sc_figures_in (fun vs H Q E h => ?_) (fun cdv A outer s H vs Q E hr h => ?_)
  · obtain ⟨_, _, _, rfl, _⟩ := h
    rfl
  · obtain ⟨v, s, n, rfl, hv, ok, h0, hn, q⟩ := h
    refine ⟨_, PSs.nox (pss_hold (ps_set (i := 1) sc_figures_in.nd rfl (Or.inl rfl) (pe_f c__fewest (hr.mono (by decide)) (pa_cons (pv 0) pa_nil)))
      (pss_hold (ps_set (i := 2) sc_figures_in.nd rfl (Or.inl rfl) (pe_f c__first_number (hr.mono (by decide)) (pa_cons (pv 0) (pa_cons (pv 1) pa_nil))))
      (Evl.pss_cut (ps_if (pt_not (pt_val (pe_f c_within (hr.mono (by decide)) (pa_cons (pe_tup (pa_cons (pv 2) (pa_cons pe_int (pa_cons (pe_op op_shlP pe_int (pv 1)) pa_nil)))) (pa_cons (pv 0) pa_nil))))) (pss_hold (ps_aug (i := 1) sc_figures_in.nd rfl (Or.inl rfl) pe_int ip_add)
      (pss_one (ps_set (i := 2) sc_figures_in.nd rfl (Or.inl rfl) (pe_f c__first_number (hr.mono (by decide)) (pa_cons (pv 0) (pa_cons (pv 1) pa_nil)))))) pss_nil)
      (pss_one (ps_ret (pe_f c__by_twos (hr.mono (by decide)) (pa_cons (pv 2) (pa_cons (pv 1) pa_nil)))))))), ?_⟩
    have gd := ok.good
    refine ev_fewest (evd_var rfl hv) gd fun k H1 hk s1 => ?_
    have kn := wideK_le ok hk
    have d1 := dp_same s1 _ _ hv
    refine hold (asgV (ev_first (evd_var rfl d1) (ev_var rfl) ok h0 (by omega) (by omega)) fun H2 s2 => ?_)
    have d2 := dp_same s2 _ _ d1
    have few := wideK_few gd hk
    have rm := wideK_room gd hk.1
    refine hold (cut_if (b := !fitsK s k) (fun σ' H' => σ' = [some v, some (.int (fewK s : Int)), some (.int (firstK s (fewK s)))] ∧ Same H2 H') ?_ (fun e H3 s3 => ?_) (fun e H3 s3 => ⟨?_, s3⟩) ?_)
    · refine evb_not (evb_b (EvV.is (ev_within (s := ⟨firstK s k, 1, 2 ^ k⟩) (t := s) (evd_tup (eds_cons (evd_var rfl (.int _)) (eds_cons evd_int (eds_cons (EvV.int (EvV.is (ev_shl ev_c (ev_var rfl) (shl_ok (n := 1) (by decide) (by omega))) (by rw [Int.one_mul]))) eds_nil))) (by show 3 ≤ 100000; omega)) (evd_var rfl d2) (one_piece (firstK_pos gd k) rm) ok (by omega)) (by rw [fits_iff gd])))
    · have ef : fitsK s k = false := by
        cases z : fitsK s k with
        | false => rfl
        | true => rw [z] at e; cases e
      rw [ef, if_neg Bool.false_ne_true] at few
      refine ⟨_, rfl, _, _, rfl, rfl, ?_⟩
      refine hold (asgLast (ev_first (k := k + 1) (evd_var rfl (dp_same s3 _ _ d2)) (EvV.is (ev_var rfl) rfl) ok h0 (by omega) (by omega)) fun H4 s4 => ⟨?_, s3.trans s4⟩)
      rw [few]
      rfl
    · have ef : fitsK s k = true := by
        cases z : fitsK s k with
        | true => rfl
        | false => rw [z] at e; cases e
      rw [ef, if_pos rfl] at few
      rw [few]
      rfl
    · rintro σ' H3 ⟨rfl, s3⟩
      have fl : fewK s ≤ 9000 := by have := fewK_le ok; omega
      exact hold (retO (evo_by_twos (ev_var rfl) (ev_var rfl) fl) fun p vs H4 np s4 e4 d4 => q p H4 (((s1.trans s2).trans s3).free np) (((s1.trans s2).trans s3).trans s4) (by rw [dpa_ints_eq d4] at e4; exact e4))
theorem evo_figures_in {te : TE} {σ : L2.St} {H : Hp} {s : S3} {n : Nat} (h : EvD K te σ H s.d) (ok : s.Ok n) (h0 : 0 < n) (hn : n ≤ 5000) : EvO K (tCall (sp_figures_in K) [] E0 (tCons te tNil)) σ H ((figsIn s).map PyData.int) :=
  evo_call (eds_cons h eds_nil) fun vs H1 Q s1 d1 q => by
    obtain ⟨v, rfl, a1⟩ := dpaN1 d1
    exact ⟨_, s, n, rfl, a1, ok, h0, hn, fun p H2 np s2 e2 => q p _ H2 np s2 e2 (dpa_ints _)⟩
abbrev s_pressed : Stmt := topS 38
theorem sc_pressed : FnScope ["plan", "signs"] ["plan", "signs"] (defScope s_pressed) := ⟨rfl, rfl, rfl, by decide +kernel, rfl, by decide +kernel, by decide +kernel⟩

def pressedF : List PyData → Except Err (List Int)
  | [d, x] => if isPlan d then (if isWholeList x 60 0 (((countsOf d).length : Int) - 1) then .ok (figsIn (textS (countsOf d) (gainOf d) (itemsOf x))) else .error .sign) else .error .plan
  | _ => .ok []
abbrev sp_pressed (K : PySem.W.Frag) : Sp := PSpXO K 2 pressedF
theorem pressed_noplan {d x : PyData} (h : isPlan d = false) : pressedF [d, x] = .error .plan := if_neg (by rw [h]; exact Bool.false_ne_true)
theorem pressed_no {cs : List Int} {g : Int} {x : PyData} (p : Plan cs g) (h : isWholeList x 60 0 ((cs.length : Int) - 1) = false) : pressedF [planD cs g, x] = .error .sign := by
  show (if isPlan (planD cs g) = true then _ else _) = _
  rw [if_pos (isPlan_of p), counts_planD, if_neg (by rw [h]; exact Bool.false_ne_true)]
theorem pressed_yes {cs : List Int} {g : Int} {ss : List Int} (p : Plan cs g) (h : Text cs.length ss) : pressedF [planD cs g, .list (ss.map PyData.int)] = .ok (figsIn (textS cs g ss)) := by
  show (if isPlan (planD cs g) = true then _ else _) = _
  rw [if_pos (isPlan_of p), counts_planD, if_pos (isText_of h), gain_planD]
  show Except.ok (figsIn (textS cs g ((ss.map PyData.int).map toI))) = _
  rw [toI_map]
theorem stretch_ok {d x r : PyData} (h : stretchF [d, x] = .ok r) : ∃ cs g ss, d = planD cs g ∧ Plan cs g ∧ x = .list (ss.map PyData.int) ∧ Text cs.length ss ∧ r = (textS cs g ss).d := by
  cases hp : isPlan d with
  | false =>
    rw [stretch_noplan hp] at h
    cases h
  | true =>
    obtain ⟨cs, g, rfl, pl⟩ := isPlan_ok hp
    cases hx : isWholeList x 60 0 ((cs.length : Int) - 1) with
    | false =>
      rw [stretch_no pl hx] at h
      cases h
    | true =>
      obtain ⟨ss, rfl, tx⟩ := isText_ok hx
      rw [stretch_yes pl tx] at h
      exact ⟨cs, g, ss, rfl, pl, rfl, tx, (Except.ok.inj h).symm⟩
theorem stretch_err {d x : PyData} {e : Err} (h : stretchF [d, x] = .error e) : pressedF [d, x] = .error e := by
  cases hp : isPlan d with
  | false =>
    rw [stretch_noplan hp] at h
    rw [pressed_noplan hp]
    cases h
    rfl
  | true =>
    obtain ⟨cs, g, rfl, pl⟩ := isPlan_ok hp
    cases hx : isWholeList x 60 0 ((cs.length : Int) - 1) with
    | false =>
      rw [stretch_no pl hx] at h
      rw [pressed_no pl hx]
      cases h
      rfl
    | true =>
      obtain ⟨ss, rfl, tx⟩ := isText_ok hx
      rw [stretch_yes pl tx] at h
      cases h
theorem ok_pressed (F : FnP K "pressed" s_pressed f fd) (c_stretch_of : Cal P w K mg base (L2N.CX P w) 7 "stretch_of" ["plan", "signs"] (sp_stretch_of K)) (c_figures_in : Cal P w K mg base CX0 2 "figures_in" ["stretch"] (sp_figures_in K)) :
    FnOk P w K mg base (L2N.CX P w) 8 f fd ["plan", "signs"] (sp_pressed K) := by
  refine F.ok sc_pressed (fun vs H Q E h => len1O h) (fun cdv A outer s H vs Q E hr h => ?_)
  obtain ⟨ds, hds, hl, kQ, kE⟩ := h
  obtain ⟨d, x, rfl⟩ : ∃ d x, ds = [d, x] := match ds, hl with | [d, x], _ => ⟨d, x, rfl⟩
  obtain ⟨v, u, rfl, hd, hx⟩ := dpaN2 hds
  refine ⟨_, (pss_one (ps_ret (pe_f c_figures_in (hr.mono (by decide)) (pa_cons (pe_fX c_stretch_of (hr.mono (by decide)) (L2N.takes_of rfl rfl rfl rfl) (pa_cons (pv 0) (pa_cons (pv 1) pa_nil))) pa_nil)))), ?_⟩
  refine ⟨_, rfl, _, rfl, [d, x], .cons hd (.cons hx .nil), rfl, fun r hr v1 H1 s1 d1 => ?_, fun e he H1 s1 => kE e (stretch_err he) H1 s1⟩
  obtain ⟨cs, g, ss, rfl, pl, rfl, tx, rfl⟩ := stretch_ok hr
  refine ⟨v1, _, 1400, rfl, d1, textS_ok pl tx, by omega, by omega, fun p H2 np s2 e2 => ?_⟩
  exact kQ _ (pressed_yes pl tx) p H2 (s1.free np) (s1.trans s2) e2
end

section
variable {P : Program} {w : World} {K : PySem.W.Frag} {mg : Str → Option Value} {base : Heap} {f : Addr} {fd : FuncData}
abbrev rdC (K : PySem.W.Frag) : Addr := He.ga K "Reader"
abbrev s__sign_around : Stmt := topS 34
theorem sc__sign_around : FnScope ["inner", "stretch", "plan", "sign"] ["inner", "stretch", "plan"] (defScope s__sign_around) := ⟨rfl, rfl, rfl, by decide +kernel, rfl, by decide +kernel, by decide +kernel⟩

def noneOr : Option Nat → V
  | none => .non
  | some x => .int (x : Int)
def sp_sign_around (K : PySem.W.Frag) : Sp := fun vs H Q _ => ∃ (vI vS vP : V) (goal now : S3) (cs : List Int) (g : Int), vs = [vI, vS, vP] ∧ Dp K H vI goal.d ∧ goal.Ok 5000 ∧ Dp K H vS now.d ∧ now.Ok 1400 ∧ Dp K H vP (planD cs g) ∧ Plan cs g ∧ ∀ H', Same H H' → Q (noneOr (signIn goal now cs)) H'
theorem ok_sign_around (F : FnP K "_sign_around" s__sign_around f fd) (c_within : Cal P w K mg base CX0 1 "within" ["one", "other"] (sp_within K)) (c_parted : Cal P w K mg base CX0 1 "parted" ["stretch", "one"] (sp_parted K))
    (c_share : Cal P w K mg base (L2N.CX P w) 5 "share" ["plan", "sign"] (sp_share K)) (z_len : mg "len" = none) (z_range : mg "range" = none) : FnOk P w K mg base CX0 6 f fd ["inner", "stretch", "plan"] (sp_sign_around K) := by
  refine F.ok sc__sign_around (fun vs H Q E h => ?_) (fun cdv A outer s H vs Q E hr h => ?_)
  · obtain ⟨_, _, _, _, _, _, _, rfl, _⟩ := h
    rfl
  · obtain ⟨vI, vS, vP, goal, now, cs, g, rfl, hI, okI, hS, okS, hP, pl, q⟩ := h
    refine ⟨_, PSs.nox (pss_hold (ps_for PassesOwn.never rfl (pi_range1 rfl z_range (pa_cons (pe_callB (lenK (K := K) rfl) (by rfl) z_len (by decide +kernel) (pa_cons (pe_ix (ix_tupK (K := K) rfl) (pv 2) pe_int (fun _ _ => rfl)) pa_nil)) pa_nil)) (pg_name (i := 3) sc__sign_around.nd rfl (.inl rfl)) (pss_one (ps_if (pt_val (pe_f c_within (hr.mono (by decide)) (pa_cons (pv 0) (pa_cons (pe_f c_parted (hr.mono (by decide)) (pa_cons (pv 1) (pa_cons (pe_fN c_share (hr.mono (by decide)) (pa_cons (pv 2) (pa_cons (pv 3) pa_nil))) pa_nil))) pa_nil)))) (pss_one (ps_ret (pv 3))) pss_nil)))
      (pss_one (ps_ret pe_non))), ?_⟩
    have hlc : (cs.map PyData.int).length = cs.length := List.length_map ..
    have l8 := pl.eight
    refine forR (m := cs.length) (EvV.is (ev_lenT (evd_ixT (ds := [.tuple (cs.map PyData.int), .int g]) (n := 0) (evd_var rfl hP) ev_c (by decide) rfl)) (by rw [hlc])) (by omega) (fun i σ' H' => ∃ y, σ' = [some vI, some vS, some vP, y] ∧ Same H H' ∧ ∀ j, j < i → withinB goal (partAt now cs (j : Int)) = false) (fun H1 s1 => ⟨_, rfl, s1, fun j hj => absurd hj (Nat.not_lt_zero j)⟩) ?_ ?_
    · rintro i σ' H' hi ⟨y, rfl, sm, no⟩
      have h0 : (0 : Int) ≤ (i : Int) := by omega
      have h1 : (i : Int) < cs.length := by omega
      have hok : isWhole (.int (i : Int)) 0 ((cs.length : Int) - 1) = true := by
        rw [isWhole_int, decide_eq_true h0, decide_eq_true (by omega)]
        rfl
      have sh := plan_share pl h0 h1
      refine ifL (b := withinB goal (partAt now cs (i : Int))) (evb_b (ev_within (s := goal) (t := partAt now cs (i : Int)) (evd_var rfl (dp_same sm _ _ hI)) (evd_parted (evd_var rfl (dp_same sm _ _ hS)) (evd_X (d := shareD cs g (i : Int)) (eds_cons (evd_var rfl (dp_same sm _ _ hP)) (eds_cons (evd_var rfl (.int _)) eds_nil)) rfl (sign_yes pl hok)) okS (by omega) sh) okI (okS.by_ok sh) (by omega))) (fun c H1 s1 => ?_) (fun c H1 s1 => ?_)
      · refine retV (v := noneOr (signIn goal now cs)) (EvV.is (ev_var rfl) ?_) fun H2 s2 => q H2 ((sm.trans s1).trans s2)
        rw [signIn_is okI.good okS.good pl hi c]
        rfl
      · refine ⟨_, rfl, sm.trans s1, fun j hj => ?_⟩
        rcases Nat.lt_or_ge j i with z | z
        · exact no j z
        · have e : j = i := by omega
          rw [e]
          exact c
    · rintro σ' H' ⟨y, rfl, sm, no⟩
      refine hold (retV (v := noneOr (signIn goal now cs)) (EvV.is ev_c ?_) fun H2 s2 => q H2 (sm.trans s2))
      have e : signIn goal now cs = none := List.find?_eq_none.mpr fun x hx => by
        rw [no x (List.mem_range.mp hx)]
        exact Bool.false_ne_true
      rw [e]
      rfl
theorem ev_sign_around {ta tb tc : TE} {σ : L2.St} {H : Hp} {goal now : S3} {cs : List Int} {g : Int} (h : EvD K ta σ H goal.d) (h2 : EvD K tb σ H now.d) (h3 : EvD K tc σ H (planD cs g)) (ok : goal.Ok 5000) (ok2 : now.Ok 1400) (pl : Plan cs g) : EvV (tCall (sp_sign_around K) [] E0 (tCons ta (tCons tb (tCons tc tNil)))) σ H (noneOr (signIn goal now cs)) :=
  evv_call (eds_cons h (eds_cons h2 (eds_cons h3 eds_nil))) fun vs H1 Q s1 d1 k => by
    obtain ⟨v, u, x, rfl, a1, a2, a3⟩ := dpaN3 d1
    exact ⟨_, _, _, goal, now, cs, g, rfl, a1, ok, a2, ok2, a3, pl, k⟩
abbrev s_Reader_lacking : Stmt := inClass (topS 33) 3
theorem sc_Reader_lacking : FnScope ["self"] ["self"] (defScope s_Reader_lacking) := ⟨rfl, rfl, rfl, by decide +kernel, rfl, by decide +kernel, by decide +kernel⟩

def sp_lacking (K : PySem.W.Frag) : Sp := fun vs H Q _ => ∃ (p l : Addr) (cs as ss : List Int) (g : Int) (m : Nat), vs = [.ref p] ∧ RdG K (rdC K) H p l cs g m as ss ∧ ∀ H', Same H H' → Q (.int ((m : Int) - (ss.length : Int))) H'
theorem ok_lacking (F : FnM K "lacking" "Reader.lacking" s_Reader_lacking f fd) (T_Reader : ClsT K (rdC K) rdN) (z_len : mg "len" = none) : FnOk P w K mg base CX0 1 f fd ["self"] (sp_lacking K) := by
  refine F.ok sc_Reader_lacking (fun vs H Q E h => ?_) (fun cdv A outer s H vs Q E hr h => ?_)
  · obtain ⟨_, _, _, _, _, _, _, rfl, _⟩ := h
    rfl
  · obtain ⟨p, l, cs, as, ss, g, m, rfl, R, q⟩ := h
    refine ⟨_, PSs.nox (pss_one (ps_ret (pe_op op_sub (pe_fld (pv 0) rfl) (pe_callB (lenK (K := K) rfl) (by rfl) z_len (by decide +kernel) (pa_cons (pe_fld (pv 0) rfl) pa_nil))))), ?_⟩
    obtain ⟨dx, S, PL, I, e, d1, d2, d3⟩ := R.at_
    exact retV (ev_op0 (g := fun i j => V.int (i - j)) (ev_fld T_Reader (by simp) rfl e rd_many) (EvV.is (ev_lenL (ds := ss.map PyData.int) ((ev_fld T_Reader (by simp) rfl e rd_signs).dat fun H2 s2 => dp_list (s2 _ _ R.sg))) (by rw [List.length_map]))) fun H1 s1 => q H1 s1
theorem ev_lacking {te : TE} {σ : L2.St} {H : Hp} {p l : Addr} {cs as ss : List Int} {g : Int} {m : Nat} (h : EvV te σ H (.ref p)) (R : RdG K (rdC K) H p l cs g m as ss) : EvV (tMX (rdC K) "lacking" (sp_lacking K) (fun _ => E0) te tNil) σ H (.int ((m : Int) - (ss.length : Int))) := fun H1 Q s1 k =>
  h H1 _ s1 fun H2 s2 => by
    have R2 := R.same (s1.trans s2)
    obtain ⟨dx, S, PL, I, e, _⟩ := R2.at_
    exact ⟨p, dx, _, rfl, e, rd_no (by decide +kernel), p, l, cs, as, ss, g, m, rfl, R2, fun H3 s3 => k H3 (s2.trans s3)⟩
abbrev s_Reader_told : Stmt := inClass (topS 33) 2
theorem sc_Reader_told : FnScope ["self"] ["self"] (defScope s_Reader_told) := ⟨rfl, rfl, rfl, by decide +kernel, rfl, by decide +kernel, by decide +kernel⟩

def sp_rtold (K : PySem.W.Frag) : Sp := fun vs H Q _ => ∃ (p l : Addr) (cs as ss : List Int) (g : Int) (m : Nat), vs = [.ref p] ∧ RdG K (rdC K) H p l cs g m as ss ∧ ∀ r H', H r = none → Same H H' → H' r = some (.lst (ss.map V.int)) → Q (.ref r) H'
theorem ok_rtold (F : FnM K "told" "Reader.told" s_Reader_told f fd) (T_Reader : ClsT K (rdC K) rdN) (z_list : mg "list" = none) : FnOk P w K mg base CX0 1 f fd ["self"] (sp_rtold K) := by
  refine F.ok sc_Reader_told (fun vs H Q E h => ?_) (fun cdv A outer s H vs Q E hr h => ?_)
  · obtain ⟨_, _, _, _, _, _, _, rfl, _⟩ := h
    rfl
  · obtain ⟨p, l, cs, as, ss, g, m, rfl, R, q⟩ := h
    refine ⟨_, PSs.nox (pss_one (ps_ret (pe_callTy (listK (K := K) rfl) (by rfl) z_list (by decide +kernel) (pa_cons (pe_fld (pv 0) rfl) pa_nil)))), ?_⟩
    obtain ⟨dx, S, PL, I, e, d1, d2, d3⟩ := R.at_
    exact retO (evd_listOfL (ds := ss.map PyData.int) ((ev_fld T_Reader (by simp) rfl e rd_signs).dat fun H2 s2 => dp_list (s2 _ _ R.sg))) fun r vs H1 nr s1 e1 d4 => q r H1 nr s1 (by rw [dpa_ints_eq d4] at e1; exact e1)
theorem evo_rtold {te : TE} {σ : L2.St} {H : Hp} {p l : Addr} {cs as ss : List Int} {g : Int} {m : Nat} (h : EvV te σ H (.ref p)) (R : RdG K (rdC K) H p l cs g m as ss) : EvO K (tMX (rdC K) "told" (sp_rtold K) (fun _ => E0) te tNil) σ H (ss.map PyData.int) := fun H1 Q s1 k =>
  h H1 _ s1 fun H2 s2 => by
    have R2 := R.same (s1.trans s2)
    obtain ⟨dx, S, PL, I, e, _⟩ := R2.at_
    exact ⟨p, dx, _, rfl, e, rd_no (by decide +kernel), p, l, cs, as, ss, g, m, rfl, R2, fun r H3 nr s3 e3 => k r _ H3 (s2.free nr) (s2.trans s3) e3 (dpa_ints _)⟩
abbrev s_Reader__further : Stmt := inClass (topS 33) 4
theorem sc_Reader__further : FnScope ["self", "fresh", "sign"] ["self"] (defScope s_Reader__further) := ⟨rfl, rfl, rfl, by decide +kernel, rfl, by decide +kernel, by decide +kernel⟩

def sp_further (K : PySem.W.Frag) : Sp := fun vs H Q _ => ∃ (p l : Addr) (cs as ss : List Int) (g : Int) (m : Nat), vs = [.ref p] ∧ RdG K (rdC K) H p l cs g m as ss ∧ RdO cs g m as ∧ Signs cs.length ss ∧ ss.length ≤ m ∧ withinB (figS as) (textS cs g ss) = true ∧
  ∀ r H', H r = none → Keep [p, l] H H' → H' r = some (.lst (((sgn cs g m as).drop ss.length).map V.int)) → RdAt K (rdC K) H' p l cs g m as → Q (.ref r) H'
theorem ok_further (F : FnM K "_further" "Reader._further" s_Reader__further f fd) (T_Reader : ClsT K (rdC K) rdN) (c_Reader_lacking : MCal P w K mg base CX0 (rdC K) 1 "lacking" ["self"] (sp_lacking K)) (c__sign_around : Cal P w K mg base CX0 6 "_sign_around" ["inner", "stretch", "plan"] (sp_sign_around K))
    (c_stepped : Cal P w K mg base CX0 6 "stepped" ["stretch", "plan", "sign"] (sp_stepped K)) : FnOk P w K mg base CX0 7 f fd ["self"] (sp_further K) := by
  refine F.ok sc_Reader__further (fun vs H Q E h => ?_) (fun cdv A outer s H vs Q E hr h => ?_)
  · obtain ⟨_, _, _, _, _, _, _, rfl, _⟩ := h
    rfl
  · obtain ⟨p, l, cs, as, s0, g, m, rfl, R, O, sg0, l0, w0, q⟩ := h
    refine ⟨_, PSs.nox (pss_hold (ps_set (i := 1) sc_Reader__further.nd rfl (Or.inl rfl) (pe_lst pa_nil))
      (pss_hold (ps_while PassesOwn.never (pt_cmpR op_gt (pe_mX0 T_Reader.cl c_Reader_lacking (hr.mono (by decide)) (fun σ => pass0At σ) (pv 0)) pe_int (nomark _)) (pss_hold (ps_set (i := 2) sc_Reader__further.nd rfl (Or.inl rfl) (pe_f c__sign_around (hr.mono (by decide)) (pa_cons (pe_fld (pv 0) rfl) (pa_cons (pe_fld (pv 0) rfl) (pa_cons (pe_fld (pv 0) rfl) pa_nil)))))
      (pss_hold (ps_if (pt_cmpR op_isN (pv 2) pe_non (nomark _)) (pss_one ps_break) pss_nil)
      (pss_hold (ps_asg (pe_f c_stepped (hr.mono (by decide)) (pa_cons (pe_fld (pv 0) rfl) (pa_cons (pe_fld (pv 0) rfl) (pa_cons (pv 2) pa_nil)))) (pg_tupK (K := K) (n := 2) rfl rfl (pgs_cons (pg_fld (K := K) rfl (pv 0)) (pgs_cons (pg_fld (K := K) rfl (pv 0)) pgs_nil))))
      (pss_hold (ps_expr (pe_bm PySem.F.plainAttrs_list PySem.F.slot_list_append PySem.F.type_list_append mt_append (pe_fld (pv 0) rfl) (pa_cons (pv 2) pa_nil)))
      (pss_one (ps_expr (pe_bm PySem.F.plainAttrs_list PySem.F.slot_list_append PySem.F.type_list_append mt_append (pv 1) (pa_cons (pv 2) pa_nil)))))))))
      (pss_one (ps_ret (pv 1))))), ?_⟩
    have pl := O.pl
    have okI : (figS as).Ok 5000 := (figS_ok O.bits).mono (by have := O.few; omega)
    refine asgO (K := K) (ds := []) (evo_lst eds_nil (by show 0 ≤ 100000; omega)) fun r vs1 H1 nr s1 e1 d1 => ?_
    cases d1
    have R1 := R.same s1
    have nrp : r ≠ p := fun z => by
      obtain ⟨dx, S, PL, I, e, _⟩ := R.at_
      rw [z, e] at nr
      cases nr
    have nrl : r ≠ l := fun z => by
      rw [z, R.sg] at nr
      cases nr
    refine hold ?_
    refine whileI (fun n σ' H' => ∃ ss y, σ' = [some (.ref p), some (.ref r), y] ∧ Keep [p, l] H H' ∧ RdG K (rdC K) H' p l cs g m as (s0 ++ ss) ∧ H' r = some (.lst (ss.map V.int)) ∧ Signs cs.length (s0 ++ ss) ∧ (s0 ++ ss).length ≤ m ∧ withinB (figS as) (textS cs g (s0 ++ ss)) = true ∧ n = m - (s0 ++ ss).length) _ ⟨[], _, rfl, Same.keep s1, by rw [List.append_nil]; exact R1, e1, by rw [List.append_nil]; exact sg0, by rw [List.append_nil]; exact l0, by rw [List.append_nil]; exact w0, rfl⟩ ?_
    rintro n σ' H' ⟨ss, y, rfl, kp, R', er, sg, ln, wn, rfl⟩
    have split := certain_split (figS_good O.bits) whole_good pl sg wn ln
    change sgn cs g m as = (s0 ++ ss) ++ certainOf (figS as) g (m - (s0 ++ ss).length) (textS cs g (s0 ++ ss)) (after cs g (s0 ++ ss)) at split
    have tx : Text cs.length (s0 ++ ss) := ⟨by have := O.m60; omega, fun x hx => by have := sg x hx; omega⟩
    obtain ⟨pa, la⟩ := after_ok pl sg
    have okS := textS_ok pl tx
    -- when it stops
    have fin : ∀ (H2 : Hp) (y : Option V), Same H' H2 → certainOf (figS as) g (m - (s0 ++ ss).length) (textS cs g (s0 ++ ss)) (after cs g (s0 ++ ss)) = [] → Hold (tRet (tVar 1)) { nx := fun _ H' => Q V.non H', rt := Q } [some (.ref p), some (.ref r), y] H2 := by
      intro H2 y s2 e
      rw [e, List.append_nil] at split
      refine hold (retV (ev_var rfl) fun H3 s3 => q r H3 nr (kp.trans (Same.keep (s2.trans s3))) ?_ ?_)
      · rw [split, List.drop_left']
        · exact (s2.trans s3) _ _ er
        · rfl
      · show RdG K (rdC K) H3 p l cs g m as (sgn cs g m as)
        rw [split]
        exact R'.same (s2.trans s3)
    refine ⟨decide ((m : Int) - ((s0 ++ ss).length : Int) > 0), evb_test (ev_op0 (g := fun i j => V.bl (decide (i > j))) (ev_lacking (ev_var rfl) R') ev_c), fun c H2 s2 => ?_, fun c H2 s2 => fin H2 y s2 ?_⟩
    · have hlt := of_decide_eq_true c
      have R2 := R'.same s2
      obtain ⟨dx, S, PL, I, eP, dS, dP, dI⟩ := R2.at_
      refine asgV (ev_sign_around ((ev_fld T_Reader (by simp) rfl eP rd_inner).dat fun J sJ => dp_same sJ _ _ dI) ((ev_fld T_Reader (by simp) rfl eP rd_stretch).dat fun J sJ => dp_same sJ _ _ dS) ((ev_fld T_Reader (by simp) rfl eP rd_plan).dat fun J sJ => dp_same sJ _ _ dP) okI okS pa) fun H3 s3 => ?_
      cases e : signIn (figS as) (textS cs g (s0 ++ ss)) (after cs g (s0 ++ ss)) with
      | none =>
        refine hold (ifYes (EvB.is (evb_test (ev_isN (K := K) (d := .none) ((ev_var rfl).dat fun _ _ => .non))) rfl) fun H4 s4 => ?_)
        exact fin H4 _ ((s2.trans s3).trans s4) (certain_stop e _)
      | some x =>
        obtain ⟨hx, wx⟩ := signIn_some e
        refine hold (ifNo (EvB.is (evb_test (ev_isN (K := K) (d := .int (x : Int)) ((ev_var rfl).dat fun _ _ => .int _))) rfl) fun H4 s4 => ?_)
        have R4 := R2.same (s3.trans s4)
        have er4 := (s2.trans (s3.trans s4)) _ _ er
        have kp4 := kp.trans (Same.keep ((s2.trans s3).trans s4))
        obtain ⟨dx, S, PL, I, eP, dS, dP, dI⟩ := R4.at_
        have hx0 : (0 : Int) ≤ (x : Int) := by omega
        have hx1 : (x : Int) < (after cs g (s0 ++ ss)).length := by omega
        refine hold (unp2F T_Reader (by simp) (by simp) rfl eP (fun v => ⟨rd_len, by rw [rd_pstretch]; exact rd_len⟩) (evd_stepped ((ev_fld T_Reader (by simp) rfl eP rd_stretch).dat fun J sJ => dp_same sJ _ _ dS) ((ev_fld T_Reader (by simp) rfl eP rd_plan).dat fun J sJ => dp_same sJ _ _ dP) (ev_var rfl) okS (by omega) pa hx0 hx1) fun v1 v2 H5 s5 b1 b2 => ?_)
        rw [upd_upd, rd_pstretch, rd_pplan]
        have eA := after_snoc cs g (s0 ++ ss) (x : Int)
        have eT := strOf_snoc g (x : Int) (s0 ++ ss) whole3 cs
        change textS cs g (s0 ++ ss ++ [(x : Int)]) = (textS cs g (s0 ++ ss)).by _ _ _ at eT
        have R5 := R4.same s5
        have nt5 : NoTup [p, l] H5 := R5.nt
        have k5 : Keep [p, l] H5 (upd H5 p (.ins (rdC K) dx (rdF m as.length l v1 v2 I))) := keep_upd (by simp)
        have c1 := dp_keep k5 nt5 (tupO_s3 _) b1
        have c2 := dp_keep k5 nt5 (tupO_plan _ _) b2
        have c3 := dp_keep k5 nt5 (tupO_s3 _) (dp_same s5 _ _ dI)
        have lp := R4.ne
        have el6 : upd H5 p (.ins (rdC K) dx (rdF m as.length l v1 v2 I)) l = some (.lst ((s0 ++ ss).map V.int)) := by
          rw [upd_ne lp]
          exact R5.sg
        have er6 : upd H5 p (.ins (rdC K) dx (rdF m as.length l v1 v2 I)) r = some (.lst (ss.map V.int)) := by
          rw [upd_ne nrp]
          exact s5 _ _ er4
        have ep6 : upd H5 p (.ins (rdC K) dx (rdF m as.length l v1 v2 I)) p = some (.ins (rdC K) dx (rdF m as.length l v1 v2 I)) := upd_same
        have kp6 := (kp4.trans (Same.keep s5)).trans k5
        generalize upd H5 p (.ins (rdC K) dx (rdF m as.length l v1 v2 I)) = H6 at c1 c2 c3 el6 er6 ep6 kp6
        have hl6 : ((s0 ++ ss).map V.int).length ≤ 100000 := by rw [List.length_map]; have := tx.1; omega
        -- self._signs.append(sign)
        refine hold (appF T_Reader (by simp) rfl ep6 rd_signs el6 hl6 (ev_var (v := .int (x : Int)) rfl) fun H7 s7 => ?_)
        have nt7 : NoTup [l] H7 := notup_of fun a ha => by
          rw [List.mem_singleton.mp ha]
          exact ⟨_, s7 _ _ el6, nt_lst _⟩
        have k7 : Keep [l] H7 (upd H7 l (.lst ((s0 ++ ss).map V.int ++ [.int (x : Int)]))) := keep_upd (by simp)
        have c1' := dp_keep k7 nt7 (tupO_s3 _) (dp_same s7 _ _ c1)
        have c2' := dp_keep k7 nt7 (tupO_plan _ _) (dp_same s7 _ _ c2)
        have c3' := dp_keep k7 nt7 (tupO_s3 _) (dp_same s7 _ _ c3)
        have el8 : upd H7 l (.lst ((s0 ++ ss).map V.int ++ [.int (x : Int)])) l = some (.lst ((s0 ++ ss ++ [(x : Int)]).map V.int)) := by
          rw [upd_same, List.map_append (l₁ := s0 ++ ss)]
          rfl
        have ep8 := k7 _ _ (by simp [lp.symm]) (s7 _ _ ep6)
        have er8 := k7 _ _ (by simp [nrl]) (s7 _ _ er6)
        have kp8 := (kp6.trans (Same.keep s7)).trans (k7.mono (by simp))
        generalize upd H7 l (.lst ((s0 ++ ss).map V.int ++ [.int (x : Int)])) = H8 at c1' c2' c3' el8 ep8 er8 kp8
        -- fresh.append(sign)
        have hl8 : (ss.map V.int).length ≤ 100000 := by
          rw [List.length_map]
          have := tx.1
          rw [List.length_append] at this
          omega
        refine hold (appVL rfl er8 hl8 (ev_var (v := .int (x : Int)) rfl) fun H9 s9 => ?_)
        have nt9 : NoTup [r] H9 := notup_of fun a ha => by
          rw [List.mem_singleton.mp ha]
          exact ⟨_, s9 _ _ er8, nt_lst _⟩
        have k9 : Keep [r] H9 (upd H9 r (.lst (ss.map V.int ++ [.int (x : Int)]))) := keep_upd (by simp)
        have sg' : Signs cs.length (s0 ++ (ss ++ [(x : Int)])) := fun z hz => by
          rw [← List.append_assoc] at hz
          rcases List.mem_append.mp hz with hz | hz
          · exact sg z hz
          · rw [List.mem_singleton.mp hz]
            omega
        refine ⟨_, ?_, ss ++ [(x : Int)], _, rfl, ?_, ⟨⟨dx, v1, v2, I, ?_, ?_, ?_, ?_⟩, ?_⟩, ?_, sg', ?_, ?_, rfl⟩
        · rw [← List.append_assoc, List.length_append (bs := [(x : Int)]), List.length_singleton]
          omega
        · exact fun b o nb eb => by
            have hb : b ≠ r := fun z => by
              rw [z, nr] at eb
              cases eb
            rw [upd_ne hb]
            exact s9 _ _ (kp8 b o nb eb)
        · exact k9 _ _ (by simp [nrp.symm]) (s9 _ _ ep8)
        · rw [← List.append_assoc, eT]
          exact dp_keep k9 nt9 (tupO_s3 _) (dp_same s9 _ _ c1')
        · rw [← List.append_assoc, eA]
          exact dp_keep k9 nt9 (tupO_plan _ _) (dp_same s9 _ _ c2')
        · exact dp_keep k9 nt9 (tupO_s3 _) (dp_same s9 _ _ c3')
        · rw [← List.append_assoc]
          exact k9 _ _ (by simp [nrl.symm]) (s9 _ _ el8)
        · rw [upd_same, List.map_append]
          rfl
        · rw [← List.append_assoc, List.length_append (bs := [(x : Int)]), List.length_singleton]
          omega
        · rw [← List.append_assoc, eT]
          exact wx
    · have hge := of_decide_eq_false c
      have e0 : m - (s0 ++ ss).length = 0 := by omega
      rw [e0]
      rfl
end

section
variable {P : Program} {w : World} {K : PySem.W.Frag} {mg : Str → Option Value} {base : Heap} {f : Addr} {fd : FuncData}
abbrev s__need_many : Stmt := topS 35
theorem sc__need_many : FnScope ["many"] ["many"] (defScope s__need_many) := ⟨rfl, rfl, rfl, by decide +kernel, rfl, by decide +kernel, by decide +kernel⟩

def needManyF : List PyData → Except Err PyData
  | [x] => if isWhole x 0 60 then .ok .none else .error .count
  | _ => .ok .none
abbrev sp_need_many (K : PySem.W.Frag) : Sp := PSpX K 1 needManyF
theorem ok_need_many (F : FnP K "_need_many" s__need_many f fd) (c_is_whole : Cal P w K mg base CX0 1 "is_whole" ["value", "least", "most"] (sp_is_whole K)) (x_BadCount : Exn K mg .count) {u4 : Tok} (g_LONGEST_TEXT : mg "LONGEST_TEXT" = some (.int 60 u4)) :
    FnOk P w K mg base (L2N.CX P w) 2 f fd ["many"] (sp_need_many K) := by
  refine F.ok sc__need_many (fun vs H Q E h => len1 h) (fun cdv A outer s H vs Q E hr h => ?_)
  obtain ⟨ds, hds, hl, kQ, kE⟩ := h
  obtain ⟨d, rfl⟩ : ∃ d, ds = [d] := match ds, hl with | [d], _ => ⟨d, rfl⟩
  obtain ⟨v, rfl, hd⟩ := dpaN1 hds
  refine ⟨_, (pss_one (ps_if (pt_not (pt_val (pe_f c_is_whole (hr.mono (by decide)) (pa_cons (pv 0) (pa_cons pe_int (pa_cons (pe_glob (v := .int 60) rfl g_LONGEST_TEXT ⟨_, rfl⟩) pa_nil)))))) (pss_one (L2N.ps_raise rfl (L2N.takes_of rfl rfl rfl rfl) (L2N.pmk_own PySem.F.excBase_ValueError x_BadCount.x x_BadCount.g x_BadCount.k (raises_own x_BadCount.b x_BadCount.t) rfl))) pss_nil)), ?_⟩
  walk_at "rd"
  refine ⟨v, d, 0, 60, rfl, hd, _, rfl, ?_⟩
  have e0 : needManyF [d] = if isWhole d 0 60 = true then .ok .none else .error .count := rfl
  cases ew : isWhole d 0 60 with
  | false =>
    rw [ew] at e0
    exact iteT (kE .count e0 H (Same.refl _))
  | true =>
    rw [ew] at e0
    exact iteF (kQ _ e0 .non H (Same.refl _) .non)
theorem needMany_ok {d r : PyData} (h : needManyF [d] = .ok r) : isWhole d 0 60 = true := by
  cases e : isWhole d 0 60 with
  | true => rfl
  | false =>
    rw [show needManyF [d] = .error .count from if_neg (by rw [e]; exact Bool.false_ne_true)] at h
    cases h
theorem needMany_err {d : PyData} {er : Err} (h : needManyF [d] = .error er) : er = .count ∧ isWhole d 0 60 = false := by
  cases e : isWhole d 0 60 with
  | false =>
    rw [show needManyF [d] = .error .count from if_neg (by rw [e]; exact Bool.false_ne_true)] at h
    cases h
    exact ⟨rfl, rfl⟩
  | true =>
    rw [show needManyF [d] = .ok .none from if_pos e] at h
    cases h
abbrev s_Reader___init__ : Stmt := inClass (topS 33) 0
theorem sc_Reader___init__ : FnScope ["self", "plan", "many"] ["self", "plan", "many"] (defScope s_Reader___init__) := ⟨rfl, rfl, rfl, by decide +kernel, rfl, by decide +kernel, by decide +kernel⟩

def sp_rinit (K : PySem.W.Frag) : Sp := fun vs H Q E => ∃ (p dx : Addr) (v u : V) (d x : PyData), vs = [.ref p, v, u] ∧ H p = some (.ins (rdC K) dx []) ∧ Dp K H v d ∧ Dp K H u x ∧
  (isPlan d = false → ∀ H', Same H H' → E (.ref (errC K .plan)) none H') ∧ (isPlan d = true → isWhole x 0 60 = false → ∀ H', Same H H' → E (.ref (errC K .count)) none H') ∧
  ∀ (cs : List Int) (g : Int) (m : Nat), d = planD cs g → Plan cs g → x = .int (m : Int) → m ≤ 60 → ∀ l H', H l = none → Keep [p] H H' → RdAt K (rdC K) H' p l cs g m [] → Q .non H'
theorem ok_rinit (F : FnM K "__init__" "Reader.__init__" s_Reader___init__ f fd) (T_Reader : ClsT K (rdC K) rdN) (c_need_plan : Cal P w K mg base (L2N.CX P w) 3 "need_plan" ["plan"] (sp_need_plan K)) (c__need_many : Cal P w K mg base (L2N.CX P w) 2 "_need_many" ["many"] (sp_need_many K))
    (g_WHOLE : mg "WHOLE" = some (.ref (He.ga K "WHOLE"))) (t_WHOLE : ∀ H, SqT K H (He.ga K "WHOLE") [.int 0, .int 1, .int 1]) : FnOk P w K mg base (L2N.CX P w) 4 f fd ["self", "plan", "many"] (sp_rinit K) := by
  refine F.ok sc_Reader___init__ (fun vs H Q E h => ?_) (fun cdv A outer s H vs Q E hr h => ?_)
  · obtain ⟨_, _, _, _, _, _, rfl, _⟩ := h
    rfl
  · obtain ⟨p, dx, v, u, d, x, rfl, hp, hd, hx, kP, kC, kQ⟩ := h
    refine ⟨_, (pss_hold (ps_expr (pe_fX c_need_plan (hr.mono (by decide)) (L2N.takes_of rfl rfl rfl rfl) (pa_cons (pv 1) pa_nil)))
      (pss_hold (ps_expr (pe_fX c__need_many (hr.mono (by decide)) (L2N.takes_of rfl rfl rfl rfl) (pa_cons (pv 2) pa_nil)))
      (pss_hold (ps_fld (pv 0) (pv 2) rfl)
      (pss_hold (ps_fld (pv 0) (pe_lst pa_nil) rfl)
      (pss_hold (ps_fld (pv 0) (pe_glob (v := .ref _) rfl g_WHOLE rfl) rfl)
      (pss_hold (ps_fld (pv 0) (pv 1) rfl)
      (pss_hold (ps_fld (pv 0) pe_int rfl)
      (pss_one (ps_fld (pv 0) (pe_glob (v := .ref _) rfl g_WHOLE rfl) rfl))))))))), ?_⟩
    have hW : ∀ H', Dp K H' (.ref (He.ga K "WHOLE")) whole3.d := fun H' => .tup (t_WHOLE H') (.cons (.int 0) (.cons (.int 1) (.cons (.int 1) .nil)))
    refine dropX (eds_cons (evd_var rfl hd) eds_nil) rfl (fun r H1 hr s1 => ?_) (fun e H1 he s1 => ?_)
    · obtain ⟨cs, g, rfl, pl⟩ := isPlan_ok (needPlan_yes hr)
      refine hold (dropX (eds_cons (evd_var rfl (dp_same s1 _ _ hx)) eds_nil) rfl (fun r2 H2 hr2 s2 => ?_) (fun e H2 he s2 => ?_))
      · obtain ⟨m, rfl, m0, m1⟩ := isWhole_ok (needMany_ok hr2)
        obtain ⟨m, rfl⟩ := Int.eq_ofNat_of_zero_le m0
        cases dp_int hx
        have t2 := s1.trans s2
        have l0 : ([] : List (Str × V)).length ≤ 0 := Nat.le_refl _
        refine hold (setFld T_Reader (by simp) rfl (t2 _ _ hp) (Nat.lt_of_le_of_lt l0 (by decide)) (ev_var rfl) fun H3 s3 => ?_)
        refine hold (setFldO (K := K) (ds := []) T_Reader (by simp) rfl upd_same (Nat.lt_of_le_of_lt (lp l0) (by decide)) (evo_lst eds_nil (by show 0 ≤ 100000; omega)) fun l vl H4 nl s4 e4 d4 => ?_)
        cases d4
        refine hold (setFld T_Reader (by simp) rfl upd_same (Nat.lt_of_le_of_lt (lp (lp l0)) (by decide)) ev_c fun H5 s5 => ?_)
        refine hold (setFld T_Reader (by simp) rfl upd_same (Nat.lt_of_le_of_lt (lp (lp (lp l0))) (by decide)) (ev_var rfl) fun H6 s6 => ?_)
        refine hold (setFld T_Reader (by simp) rfl upd_same (Nat.lt_of_le_of_lt (lp (lp (lp (lp l0)))) (by decide)) ev_c fun H7 s7 => ?_)
        refine hold (setFldL T_Reader (by simp) rfl upd_same (Nat.lt_of_le_of_lt (lp (lp (lp (lp (lp l0))))) (by decide)) ev_c fun H8 s8 => ?_)
        rw [rd_new]
        have kp : ∀ {A B : Hp} {o : HO}, Same A B → Keep [p] A (upd B p o) := fun s => (Same.keep s).trans (keep_upd (by simp))
        have k3 := kp (o := .ins (rdC K) dx (putF "_many" (.int (m : Int)) [])) (t2.trans s3)
        have k4 := k3.trans (kp (o := .ins (rdC K) dx (putF "_signs" (.ref l) (putF "_many" (.int (m : Int)) []))) s4)
        have hlp : l ≠ p := fun z => by
          rw [z, upd_same] at nl
          cases nl
        have hl0 : H l = none := by
          have h3 : H3 l = none := by
            rw [upd_ne hlp] at nl
            exact nl
          exact (t2.trans s3).free h3
        have el4 : upd H4 p (.ins (rdC K) dx (putF "_signs" (.ref l) (putF "_many" (.int (m : Int)) []))) l = some (.lst []) := by
          rw [upd_ne hlp]
          exact e4
        have el5 := (kp (o := .ins (rdC K) dx (putF "_stretch" (.ref (He.ga K "WHOLE")) (putF "_signs" (.ref l) (putF "_many" (.int (m : Int)) [])))) s5) l _ (by simp [hlp]) el4
        have el6 := (kp (o := .ins (rdC K) dx (putF "_plan" v (putF "_stretch" (.ref (He.ga K "WHOLE")) (putF "_signs" (.ref l) (putF "_many" (.int (m : Int)) []))))) s6) l _ (by simp [hlp]) el5
        have el7 := (kp (o := .ins (rdC K) dx (putF "_taken" (.int 0) (putF "_plan" v (putF "_stretch" (.ref (He.ga K "WHOLE")) (putF "_signs" (.ref l) (putF "_many" (.int (m : Int)) [])))))) s7) l _ (by simp [hlp]) el6
        have el8 := (kp (o := .ins (rdC K) dx (rdF (m : Int) 0 l (.ref (He.ga K "WHOLE")) v (.ref (He.ga K "WHOLE")))) s8) l _ (by simp [hlp]) el7
        have kAll : Keep [p] H (upd H8 p (.ins (rdC K) dx (rdF (m : Int) 0 l (.ref (He.ga K "WHOLE")) v (.ref (He.ga K "WHOLE"))))) := (((k4.trans (kp s5)).trans (kp s6)).trans (kp s7)).trans (kp s8)
        refine kQ cs g m rfl pl rfl (by omega) l _ hl0 kAll ?_
        show RdG K (rdC K) _ p l cs g m [] (sgn cs g m [])
        rw [sgn_nil pl]
        exact ⟨⟨dx, _, v, _, upd_same, hW _, dp_ins kAll hp hd, hW _⟩, el8⟩
      · obtain ⟨rfl, hw⟩ := needMany_err he
        exact kC (needPlan_yes hr) hw H2 (s1.trans s2)
    · obtain ⟨rfl, hw⟩ := needPlan_no he
      exact kP hw H1 s1
abbrev s_Reader_take : Stmt := inClass (topS 33) 1
theorem sc_Reader_take : FnScope ["self", "figures"] ["self", "figures"] (defScope s_Reader_take) := ⟨rfl, rfl, rfl, by decide +kernel, rfl, by decide +kernel, by decide +kernel⟩

def sp_rtake (K : PySem.W.Frag) : Sp := fun vs H Q E => ∃ (p l : Addr) (cs as : List Int) (g : Int) (m : Nat) (u : V) (x : PyData), vs = [.ref p, u] ∧ RdAt K (rdC K) H p l cs g m as ∧ RdO cs g m as ∧ Dp K H u x ∧
  (∀ fs : List Int, x = .list (fs.map PyData.int) → Bits fs → as.length + fs.length ≤ 4000 → ∀ r H', H r = none → Keep [p, l] H H' → H' r = some (.lst (((sgn cs g m (as ++ fs)).drop (sgn cs g m as).length).map V.int)) → RdAt K (rdC K) H' p l cs g m (as ++ fs) → Q (.ref r) H') ∧
  ((∀ fs : List Int, x = .list (fs.map PyData.int) → Bits fs → as.length + fs.length ≤ 4000 → False) → ∀ H', Same H H' → E (.ref (errC K .figures)) none H')
theorem needFig_no {d : PyData} {e : Err} (h : needFiguresF [d] = .error e) : e = .figures ∧ isWholeList d 4000 0 1 = false := by
  cases hw : isWholeList d 4000 0 1 with
  | false =>
    rw [show needFiguresF [d] = .error .figures from if_neg (by rw [hw]; exact Bool.false_ne_true)] at h
    cases h
    exact ⟨rfl, rfl⟩
  | true =>
    rw [show needFiguresF [d] = .ok .none from if_pos hw] at h
    cases h
theorem needFig_ok {d r : PyData} (h : needFiguresF [d] = .ok r) : isWholeList d 4000 0 1 = true := by
  cases hw : isWholeList d 4000 0 1 with
  | true => rfl
  | false =>
    rw [show needFiguresF [d] = .error .figures from if_neg (by rw [hw]; exact Bool.false_ne_true)] at h
    cases h
theorem ok_rtake (F : FnM K "take" "Reader.take" s_Reader_take f fd) (T_Reader : ClsT K (rdC K) rdN) (c_need_figures : Cal P w K mg base (L2N.CX P w) 4 "need_figures" ["figures"] (sp_need_figures K)) (c_lengthened : Cal P w K mg base CX0 1 "lengthened" ["stretch", "figures"] (sp_lengthened K))
    (c_Reader__further : MCal P w K mg base CX0 (rdC K) 7 "_further" ["self"] (sp_further K)) (x_BadFigures : Exn K mg .figures) (z_len : mg "len" = none) {u4 : Tok} (g_MOST_FIGURES : mg "MOST_FIGURES" = some (.int 4000 u4)) :
    FnOk P w K mg base (L2N.CX P w) 8 f fd ["self", "figures"] (sp_rtake K) := by
  refine F.ok sc_Reader_take (fun vs H Q E h => ?_) (fun cdv A outer s H vs Q E hr h => ?_)
  · obtain ⟨_, _, _, _, _, _, _, _, rfl, _⟩ := h
    rfl
  · obtain ⟨p, l, cs, as, g, m, u, x, rfl, R, O, hx, kQ, kE⟩ := h
    refine ⟨_, (pss_hold (ps_expr (pe_fX c_need_figures (hr.mono (by decide)) (L2N.takes_of rfl rfl rfl rfl) (pa_cons (pv 1) pa_nil)))
      (pss_hold (ps_if (pt_cmpR op_gt (pe_op op_add (pe_fld (pv 0) rfl) (pe_callB (lenK (K := K) rfl) (by rfl) z_len (by decide +kernel) (pa_cons (pv 1) pa_nil))) (pe_glob (v := .int 4000) rfl g_MOST_FIGURES ⟨_, rfl⟩) (nomark _)) (pss_one (L2N.ps_raise rfl (L2N.takes_of rfl rfl rfl rfl) (L2N.pmk_own PySem.F.excBase_ValueError x_BadFigures.x x_BadFigures.g x_BadFigures.k (raises_own x_BadFigures.b x_BadFigures.t) rfl))) pss_nil)
      (pss_hold (ps_fldaug (pv 0) (pe_callB (lenK (K := K) rfl) (by rfl) z_len (by decide +kernel) (pa_cons (pv 1) pa_nil)) in_add)
      (pss_hold (ps_fld (pv 0) (pe_f c_lengthened (hr.mono (by decide)) (pa_cons (pe_fld (pv 0) rfl) (pa_cons (pv 1) pa_nil))) rfl)
      (pss_one (ps_ret (pe_mX0 T_Reader.cl c_Reader__further (hr.mono (by decide)) (fun σ => pass0At σ) (pv 0)))))))), ?_⟩
    refine dropX (eds_cons (evd_var rfl hx) eds_nil) rfl (fun r H1 hr s1 => ?_) (fun e H1 he s1 => ?_)
    · obtain ⟨fs, rfl, fl, fb⟩ := isBits_ok (needFig_ok hr)
      have R1 := R.same s1
      have hx1 := dp_same s1 _ _ hx
      obtain ⟨dx, S, PL, I, e1, dS, dP, dI⟩ := R1.at_
      have hfm : (fs.map PyData.int).length = fs.length := List.length_map ..
      refine hold (ifB (b := decide ((as.length : Int) + (fs.length : Int) > 4000)) (evb_test (ev_op0 (g := fun i j => V.bl (decide (i > j))) (ev_op0 (g := fun i j => V.int (i + j)) (ev_fld T_Reader (by simp) rfl e1 rd_taken) (EvV.is (ev_lenL (evd_var rfl hx1)) (by rw [hfm]))) ev_c)) (fun c H2 s2 => ?_) (fun c H2 s2 => ?_))
      · have hgt := of_decide_eq_true c
        refine kE (fun fs' e' _ hle => ?_) H2 (s1.trans s2)
        have e2 : fs = fs' := by
          have := congrArg (fun d => itemsOf d) e'
          simp only [itemsOf, toI_map] at this
          exact this
        subst e2
        omega
      · have hle := of_decide_eq_false c
        have hx2 := dp_same s2 _ _ hx1
        have e2 := s2 _ _ e1
        refine hold (augFld T_Reader (by simp) rfl e2 rd_len rd_taken (EvV.is (ev_lenL (evd_var rfl hx2)) (by rw [hfm])) fun H3 s3 => ?_)
        rw [rd_ptaken]
        have k3 : Keep [p] H3 (upd H3 p (.ins (rdC K) dx (rdF m ((as.length : Int) + (fs.length : Int)) l S PL I))) := keep_upd (by simp)
        have e3 := s3 _ _ e2
        have s23 := s2.trans s3
        have dS3 := dp_ins k3 e3 (dp_same s23 _ _ dS)
        have dP3 := dp_ins k3 e3 (dp_same s23 _ _ dP)
        have dI3 := dp_ins k3 e3 (dp_same s23 _ _ dI)
        have hx3 := dp_ins k3 e3 (dp_same s3 _ _ hx2)
        have lp := R.ne
        have sg3 := k3 l _ (by simp [lp]) (s23 _ _ R1.sg)
        have ep3 : upd H3 p (.ins (rdC K) dx (rdF m ((as.length : Int) + (fs.length : Int)) l S PL I)) p = some (.ins (rdC K) dx (rdF m ((as.length : Int) + (fs.length : Int)) l S PL I)) := upd_same
        have kk3 : Keep [p] H (upd H3 p (.ins (rdC K) dx (rdF m ((as.length : Int) + (fs.length : Int)) l S PL I))) := (Same.keep (s1.trans s23)).trans k3
        generalize upd H3 p (.ins (rdC K) dx (rdF m ((as.length : Int) + (fs.length : Int)) l S PL I)) = G at dS3 dP3 dI3 hx3 sg3 ep3 kk3
        refine hold (setFldD T_Reader (by simp) rfl ep3 rd_len (evd_lengthened ((ev_fld T_Reader (by simp) rfl ep3 rd_inner).dat fun J sJ => dp_same sJ _ _ dI3) (evd_var rfl hx3)) fun v4 H4 s4 d4 => ?_)
        rw [rd_pinner]
        have k4 : Keep [p] H4 (upd H4 p (.ins (rdC K) dx (rdF m ((as.length : Int) + (fs.length : Int)) l S PL v4))) := keep_upd (by simp)
        have e4 := s4 _ _ ep3
        have ec : (as.length : Int) + (fs.length : Int) = ((as ++ fs).length : Int) := by rw [List.length_append]; omega
        have R4 : RdG K (rdC K) (upd H4 p (.ins (rdC K) dx (rdF m ((as.length : Int) + (fs.length : Int)) l S PL v4))) p l cs g m (as ++ fs) (sgn cs g m as) := by
          refine ⟨⟨dx, S, PL, v4, ?_, dp_ins k4 e4 (dp_same s4 _ _ dS3), dp_ins k4 e4 (dp_same s4 _ _ dP3), dp_ins k4 e4 d4⟩, k4 l _ (by simp [lp]) (s4 _ _ sg3)⟩
          rw [upd_same, ec]
        have kk4 : Keep [p] H (upd H4 p (.ins (rdC K) dx (rdF m ((as.length : Int) + (fs.length : Int)) l S PL v4))) := (kk3.trans (Same.keep s4)).trans k4
        generalize upd H4 p (.ins (rdC K) dx (rdF m ((as.length : Int) + (fs.length : Int)) l S PL v4)) = G4 at R4 kk4
        obtain ⟨dx4, S4, P4, I4, eG, _⟩ := R4.at_
        obtain ⟨q1, q2⟩ := sgn_signs O.pl m as
        refine hold ⟨_, rfl, p, dx4, _, rfl, eG, rd_no (by decide +kernel), p, l, cs, as ++ fs, sgn cs g m as, g, m, rfl, R4, ⟨O.pl, O.m60, O.bits.both fb, by rw [List.length_append]; omega⟩, q2, q1, sgn_more O.pl O.bits fb, fun r H5 nr k5 e5 R5 => ?_⟩
        have nr0 : H r = none := by
          cases e : H r with
          | none => rfl
          | some o =>
            have hrp : r ≠ p := fun z => by
              rw [z, eG] at nr
              cases nr
            have := kk4 r o (by simp [hrp]) e
            rw [this] at nr
            cases nr
        exact kQ fs rfl fb (by omega) r H5 nr0 ((kk4.mono (by simp)).trans k5) e5 R5
    · obtain ⟨rfl, hw⟩ := needFig_no he
      refine kE (fun fs e hb hle => ?_) H1 s1
      subst e
      rw [isBits_of hb (by omega)] at hw
      cases hw
end

section
variable {P : Program} {w : World} {K : PySem.W.Frag} {mg : Str → Option Value} {base : Heap} {f fW : Addr} {fd fdW : FuncData}
abbrev s__law_certain : Stmt := topS 52
theorem sc__law_certain : FnScope ["_law_plan_here", "_law_many", "_law_figures", "_law_goal", "_law_signs_here", "_law_now", "_law_total", "_law_parts", "_law_sign", "_law_below", "_law_part"] ["_law_plan_here", "_law_many", "_law_figures"] (defScope s__law_certain) := ⟨rfl, rfl, rfl, by decide +kernel, rfl, by decide +kernel, by decide +kernel⟩

def pairD (now : S3) (cs : List Int) (x : Nat) : PyData := .tuple [.int (x : Int), (partAt now cs (x : Int)).d]
def holdB (goal now : S3) (cs : List Int) (x : Nat) : Bool := withinB goal (partAt now cs (x : Int))
def partsD (goal now : S3) (cs : List Int) (i : Nat) : List PyData := ((List.range i).filter (holdB goal now cs)).map (pairD now cs)
theorem parts_none {goal now : S3} {cs : List Int} (e : signIn goal now cs = none) : partsD goal now cs cs.length = [] := by
  unfold partsD
  rw [List.filter_eq_nil_iff (p := holdB goal now cs) |>.mpr fun x hx => List.find?_eq_none.mp e x hx]
  rfl
theorem parts_some {goal now : S3} {cs : List Int} {x : Nat} (e : signIn goal now cs = some x) : ∃ r, partsD goal now cs cs.length = pairD now cs x :: r := by
  have h : ((List.range cs.length).filter (holdB goal now cs)).head? = some x := by
    rw [List.head?_filter]
    exact e
  unfold partsD
  cases hf : (List.range cs.length).filter (holdB goal now cs) with
  | nil =>
    rw [hf] at h
    cases h
  | cons y r =>
    rw [hf] at h
    cases (Option.some.inj h)
    exact ⟨r.map (pairD now cs), rfl⟩
theorem pairD_sh (now : S3) (cs : List Int) (x : Nat) : ShN 2 (pairD now cs x) := sh_tup fun d hd => by
  simp only [List.mem_cons, List.not_mem_nil, or_false] at hd
  rcases hd with rfl | rfl
  · exact sh_int _
  · exact s3_sh _
theorem partsD_sh (goal now : S3) (cs : List Int) (i : Nat) : ShN 3 (.list (partsD goal now cs i)) := sh_lst fun d hd => by
  obtain ⟨x, _, rfl⟩ := List.mem_map.mp hd
  exact pairD_sh now cs x
theorem pairD_tup (now : S3) (cs : List Int) (x : Nat) : TupO (pairD now cs x) := .tup fun d hd => by
  simp only [List.mem_cons, List.not_mem_nil, or_false] at hd
  rcases hd with rfl | rfl
  · exact .int _
  · exact tupO_s3 _
theorem dpa_keep {M : List Addr} {A B : Hp} (h : Keep M A B) (n : NoTup M A) {vs : List V} {ds : List PyData} (t : ∀ d ∈ ds, TupO d) (hd : DpAll K A vs ds) : DpAll K B vs ds := dpa_imp (fun d hm v => dp_keep h n (t d hm)) hd
def sp_lcertain (K : PySem.W.Frag) : Sp := fun vs H Q _ => ∃ (v u : V) (cs fs : List Int) (g : Int) (m : Nat), vs = [v, .int (m : Int), u] ∧ Dp K H v (planD cs g) ∧ Plan cs g ∧ m ≤ 60 ∧ Dp K H u (.list (fs.map PyData.int)) ∧ Bits fs ∧ fs.length ≤ 4000 ∧
  ∀ p H', H p = none → Same H H' → H' p = some (.lst ((sgn cs g m fs).map V.int)) → Q (.ref p) H'
theorem ok_lcertain (F : FnP K "_law_certain" s__law_certain f fd) (c__law_figured : Cal P w K mg base CX0 1 "_law_figured" ["_law_figures"] (sp_lfigured K)) (c__law_within : Cal P w K mg base CX0 1 "_law_within" ["_law_one", "_law_other"] (sp_within K))
    (c__law_behind : Cal P w K mg base CX0 1 "_law_behind" ["_law_plan_here", "_law_sign"] (sp_lbehind K)) (z_len : mg "len" = none) (z_sum : mg "sum" = none) (z_range : mg "range" = none) : FnOk P w K mg base CX0 2 f fd ["_law_plan_here", "_law_many", "_law_figures"] (sp_lcertain K) := by
  refine F.ok sc__law_certain (fun vs H Q E h => ?_) (fun cdv A outer s H vs Q E hr h => ?_)
  · obtain ⟨_, _, _, _, _, _, rfl, _⟩ := h
    rfl
  · obtain ⟨v, u, cs, fs, g, m, rfl, hd, pl, m60, hx, fb, fl, q⟩ := h
    refine ⟨_, PSs.nox (pss_hold (ps_set (i := 3) sc__law_certain.nd rfl (Or.inl rfl) (pe_f c__law_figured (hr.mono (by decide)) (pa_cons (pv 2) pa_nil)))
      (pss_hold (ps_set (i := 4) sc__law_certain.nd rfl (Or.inl rfl) (pe_lst pa_nil))
      (pss_hold (ps_set (i := 5) sc__law_certain.nd rfl (Or.inl rfl) (pe_tup (pa_cons pe_int (pa_cons pe_int (pa_cons pe_int pa_nil)))))
      (pss_hold (ps_while PassesOwn.never (pt_cmpR op_lt (pe_callB (lenK (K := K) rfl) (by rfl) z_len (by decide +kernel) (pa_cons (pv 4) pa_nil)) (pv 1) (nomark _)) (pss_hold (ps_set (i := 6) sc__law_certain.nd rfl (Or.inl rfl) (pe_callB (sumTK (K := K) rfl rfl) (by rfl) z_sum (by decide +kernel) (pa_cons (pe_ix (ix_tupK (K := K) rfl) (pv 0) pe_int (fun _ _ => rfl)) pa_nil)))
      (pss_hold (ps_set (i := 7) sc__law_certain.nd rfl (Or.inl rfl) (pe_lst pa_nil))
      (pss_hold (ps_for PassesOwn.never rfl (pi_range1 rfl z_range (pa_cons (pe_callB (lenK (K := K) rfl) (by rfl) z_len (by decide +kernel) (pa_cons (pe_ix (ix_tupK (K := K) rfl) (pv 0) pe_int (fun _ _ => rfl)) pa_nil)) pa_nil)) (pg_name (i := 8) sc__law_certain.nd rfl (.inl rfl)) (pss_hold (ps_set (i := 9) sc__law_certain.nd rfl (Or.inl rfl) (pe_callB (sumTK (K := K) rfl rfl) (by rfl) z_sum (by decide +kernel) (pa_cons (pe_slice (sl_tupK (K := K) rfl) (pe_ix (ix_tupK (K := K) rfl) (pv 0) pe_int (fun _ _ => rfl)) po_none (po_some (pv 8))) pa_nil)))
      (pss_hold (ps_set (i := 10) sc__law_certain.nd rfl (Or.inl rfl) (pe_tup (pa_cons (pe_op op_add (pe_op op_mulW (pe_ix (ix_tupK (K := K) rfl) (pv 5) pe_int (fun _ _ => rfl)) (pv 6)) (pe_op op_mulW (pe_ix (ix_tupK (K := K) rfl) (pv 5) pe_int (fun _ _ => rfl)) (pv 9))) (pa_cons (pe_op op_mulW (pe_ix (ix_tupK (K := K) rfl) (pv 5) pe_int (fun _ _ => rfl)) (pe_ix (ix_tupK (K := K) rfl) (pe_ix (ix_tupK (K := K) rfl) (pv 0) pe_int (fun _ _ => rfl)) (pv 8) (fun _ _ => rfl))) (pa_cons (pe_op op_mulW (pe_ix (ix_tupK (K := K) rfl) (pv 5) pe_int (fun _ _ => rfl)) (pv 6)) pa_nil)))))
      (pss_one (ps_if (pt_val (pe_f c__law_within (hr.mono (by decide)) (pa_cons (pv 3) (pa_cons (pv 10) pa_nil)))) (pss_one (ps_expr (pe_bm PySem.F.plainAttrs_list PySem.F.slot_list_append PySem.F.type_list_append mt_append (pv 7) (pa_cons (pe_tup (pa_cons (pv 8) (pa_cons (pv 10) pa_nil))) pa_nil)))) pss_nil)))))
      (pss_hold (ps_if (pt_cmpR (op_eqDK (K := K) rfl (hu2_of hr)) (pv 7) (pe_lst pa_nil) (nomark _)) (pss_one (ps_ret (pv 4))) pss_nil)
      (pss_hold (ps_expr (pe_bm PySem.F.plainAttrs_list PySem.F.slot_list_append PySem.F.type_list_append mt_append (pv 4) (pa_cons (pe_ix (ix_tupK (K := K) rfl) (pe_ix (ix_listK (K := K) rfl) (pv 7) pe_int (fun _ _ => rfl)) pe_int (fun _ _ => rfl)) pa_nil)))
      (pss_hold (ps_set (i := 5) sc__law_certain.nd rfl (Or.inl rfl) (pe_ix (ix_tupK (K := K) rfl) (pe_ix (ix_listK (K := K) rfl) (pv 7) pe_int (fun _ _ => rfl)) pe_int (fun _ _ => rfl)))
      (pss_one (ps_set (i := 0) sc__law_certain.nd rfl (Or.inl rfl) (pe_f c__law_behind (hr.mono (by decide)) (pa_cons (pv 0) (pa_cons (pe_ix (ix_listK (K := K) rfl) (pv 4) (pe_un un_neg pe_int) (fun _ _ => rfl)) pa_nil))))))))))))
      (pss_one (ps_ret (pv 4))))))), ?_⟩
    have okG : (figS fs).Ok 5000 := (figS_ok fb).mono (by omega)
    refine asgD (evd_lfigured (evd_var rfl hx)) fun v3 H1 s1 d1 => ?_
    refine hold (asgO (K := K) (ds := []) (evo_lst eds_nil (by show 0 ≤ 100000; omega)) fun ps vs4 H2 np2 s2 e2 d2 => ?_)
    cases d2
    refine hold (asgD (K := K) (d := whole3.d) (evd_tup (eds_cons evd_int (eds_cons evd_int (eds_cons evd_int eds_nil))) (by show 3 ≤ 100000; omega)) fun v5 H3 s3 d3 => ?_)
    refine hold ?_
    refine whileI (fun n σ' H' => ∃ ss v0 vn y6 y7 y8 y9 y10, σ' = [some v0, some (.int (m : Int)), some u, some v3, some (.ref ps), some vn, y6, y7, y8, y9, y10] ∧ Same H1 H' ∧ H' ps = some (.lst (ss.map V.int)) ∧ Dp K H' v0 (planD (after cs g ss) g) ∧ Dp K H' vn (textS cs g ss).d ∧ Signs cs.length ss ∧ ss.length ≤ m ∧ withinB (figS fs) (textS cs g ss) = true ∧ n = m - ss.length) _
      ⟨[], _, _, _, _, _, _, _, rfl, s2.trans s3, s3 _ _ e2, dp_same ((s1.trans s2).trans s3) _ _ hd, d3, (fun _ h => nomatch h), Nat.zero_le _, in_whole (figS_good fb), rfl⟩ ?_
    rintro n σ' H' ⟨ss, v0, vn, y6, y7, y8, y9, y10, rfl, sm, es, dP, dN, sg, ln, wn, rfl⟩
    have split := certain_split (figS_good fb) whole_good pl sg wn ln
    change sgn cs g m fs = ss ++ certainOf (figS fs) g (m - ss.length) (textS cs g ss) (after cs g ss) at split
    have tx : Text cs.length ss := ⟨by omega, fun x hx => by have := sg x hx; omega⟩
    obtain ⟨pa, la⟩ := after_ok pl sg
    have okS := textS_ok pl tx
    have hH : Same H H1 := s1
    have fin : ∀ (H2 : Hp) (D : Ends) (τ : L2.St), D.rt = Q → τ[4]? = some (some (.ref ps)) → Same H' H2 → certainOf (figS fs) g (m - ss.length) (textS cs g ss) (after cs g ss) = [] → tRet (tVar 4) D τ H2 := by
      intro H2 D τ hD hτ s2' e
      rw [e, List.append_nil] at split
      refine retV (ev_var hτ) fun H3' s3' => ?_
      rw [hD]
      exact q ps H3' (s1.free np2) ((s1.trans sm).trans (s2'.trans s3')) (by rw [split]; exact (s2'.trans s3') _ _ es)
    refine ⟨decide ((ss.length : Int) < (m : Int)), evb_test (ev_op0 (g := fun i j => V.bl (decide (i < j))) (EvV.is (ev_lenL (evd_var rfl (dp_list es))) (by rw [List.length_map])) (ev_var rfl)), fun c H4 s4 => ?_, fun c H4 s4 => hold (fin H4 _ _ rfl rfl s4 ?_)⟩
    · have hlt := of_decide_eq_true c
      have es4 := s4 _ _ es
      have dP4 := dp_same s4 _ _ dP
      have dN4 := dp_same s4 _ _ dN
      have sm4 := sm.trans s4
      have eT : ∀ x : Nat, x < cs.length → textS cs g (ss ++ [(x : Int)]) = partAt (textS cs g ss) (after cs g ss) (x : Int) := fun x _ => strOf_snoc g (x : Int) ss whole3 cs
      have eA : ∀ x : Int, after cs g (ss ++ [x]) = grown (after cs g ss) g x := fun x => after_snoc cs g ss x
      have s5l := la
      generalize hca : after cs g ss = ca at dP4 pa la eT eA split fin
      generalize hst : textS cs g ss = st at dN4 okS eT wn split fin
      have gS := okS.good
      have c0 : ∀ {σ : L2.St} {J : Hp}, σ[0]? = some (some v0) → Dp K J v0 (planD ca g) → EvD K (tOp (rIxT K) (tVar 0) (tC (.int 0))) σ J (.tuple (ca.map PyData.int)) := fun h1 h2 => evd_ixT (ds := [.tuple (ca.map PyData.int), .int g]) (n := 0) (evd_var h1 h2) ev_c (by decide) rfl
      refine asgV (v := .int ca.sum) (ev_sumT (c0 rfl dP4)) fun H5 s5 => ?_
      refine hold (asgO (K := K) (ds := []) (evo_lst eds_nil (by show 0 ≤ 100000; omega)) fun p7 vs7 H6 np6 s6 e6 d6 => ?_)
      cases d6
      have es6 := (s5.trans s6) _ _ es4
      have ne7 : ps ≠ p7 := fun z => by
        rw [← z, s5 _ _ es4] at np6
        cases np6
      have n17 : H1 p7 = none := (sm4.trans s5).free np6
      have hlc : (ca.map PyData.int).length = ca.length := List.length_map ..
      have l8 := pa.eight
      refine hold (forR (m := ca.length) (EvV.is (ev_lenT (c0 rfl (dp_same (s5.trans s6) _ _ dP4))) (by rw [hlc])) (by omega) (fun i τ J => ∃ y8 y9 y10 us, τ = [some v0, some (.int (m : Int)), some u, some v3, some (.ref ps), some vn, some (.int ca.sum), some (.ref p7), y8, y9, y10] ∧ Same H1 J ∧ J ps = some (.lst (ss.map V.int)) ∧ J p7 = some (.lst us) ∧ DpAll K J us (partsD (figS fs) st ca i) ∧ Dp K J v0 (planD ca g) ∧ Dp K J vn st.d)
        (fun J r => ⟨_, _, _, [], rfl, ((sm4.trans s5).trans s6).trans r, r _ _ es6, r _ _ e6, .nil, dp_same ((s5.trans s6).trans r) _ _ dP4, dp_same ((s5.trans s6).trans r) _ _ dN4⟩) ?_ ?_)
      · rintro i τ J hi ⟨z8, z9, z10, us, rfl, smJ, esJ, e7J, dU, dPJ, dNJ⟩
        have h0 : (0 : Int) ≤ (i : Int) := by omega
        have h1 : (i : Int) < ca.length := by omega
        have sa := (plan_share pa h0 h1).abs
        have hnth := data_nth h0 h1
        refine asgV (v := .int (belowOf ca (i : Int))) (EvV.is (ev_sumT (evd_takeI (c0 rfl dPJ) (ev_var rfl) h0 (by omega))) rfl) fun J1 r1 => ?_
        have dP1 := dp_same r1 _ _ dPJ
        have dN1 := dp_same r1 _ _ dNJ
        have ix : ∀ (k : Nat) {σ : L2.St} {J : Hp} (z : Int), σ[5]? = some (some vn) → Dp K J vn st.d → [PyData.int st.l, .int st.w, .int st.t][k]? = some (.int z) → EvV (tOp (rIxT K) (tVar 5) (tC (.int (k : Int)))) σ J (.int z) := fun k _ _ z e d h =>
          EvD.v_int (evd_ixT (evd_var e d) ev_c (by omega) (by rw [Int.toNat_natCast]; exact h))
        refine hold (asgD (K := K) (d := (partAt st ca (i : Int)).d) (evd_tup (eds_cons (EvV.int (ev_op0 (g := fun i j => V.int (i + j)) (ev_op (C := CMulW) (g := fun i j => V.int (i * j)) (ix 0 st.l rfl dN1 rfl) (ev_var rfl) (wmul okS.labs sa.2.2 (by omega))) (ev_op (C := CMulW) (g := fun i j => V.int (i * j)) (ix 1 st.w rfl dN1 rfl) (ev_var rfl) (wmul okS.wabs sa.1 (by omega)))))
          (eds_cons (EvV.int (ev_op (C := CMulW) (g := fun i j => V.int (i * j)) (ix 1 st.w rfl dN1 rfl) (EvD.v_int (evd_ixT (c0 rfl dP1) (ev_var rfl) h0 hnth)) (wmul okS.wabs sa.2.1 (by omega)))) (eds_cons (EvV.int (ev_op (C := CMulW) (g := fun i j => V.int (i * j)) (ix 2 st.t rfl dN1 rfl) (ev_var rfl) (wmul okS.tabs sa.2.2 (by omega)))) eds_nil))) (by show 3 ≤ 100000; omega)) fun vp J2 r2 dp2 => ?_)
        have rr := r1.trans r2
        have okP : (partAt st ca (i : Int)).Ok 1423 := okS.by_ok (plan_share pa h0 h1)
        have hpd : partsD (figS fs) st ca (i + 1) = partsD (figS fs) st ca i ++ (if holdB (figS fs) st ca i then [pairD st ca i] else []) := by
          unfold partsD
          rw [List.range_succ, List.filter_append, List.map_append, List.filter_cons]
          cases holdB (figS fs) st ca i <;> rfl
        have ul : us.length ≤ i := by
          rw [dpa_len dU]
          unfold partsD
          rw [List.length_map]
          exact Nat.le_trans (List.length_filter_le ..) (by rw [List.length_range]; exact Nat.le_refl _)
        refine hold (ifL (b := holdB (figS fs) st ca i) (evb_b (ev_within (evd_var rfl (dp_same (smJ.trans rr) _ _ d1)) (evd_var rfl dp2) okG okP (by omega))) (fun cc J3 r3 => ?_) (fun cc J3 r3 => ?_))
        · have r13 := rr.trans r3
          refine (evd_tup (K := K) (eds_cons (EvV.int (ev_var rfl)) (eds_cons (evd_var rfl (dp_same r3 _ _ dp2)) eds_nil)) (by show 2 ≤ 100000; omega) : EvD K _ _ J3 (pairD st ca i)) |> fun ev => appDL rfl (r13 _ _ e7J) (by omega) ev fun ve J4 r4 de => ?_
          have r14 := r13.trans r4
          have nt : NoTup [p7] J4 := notup_of fun a ha => by
            rw [List.mem_singleton.mp ha]
            exact ⟨_, r14 _ _ e7J, nt_lst _⟩
          have kp : Keep [p7] J4 (upd J4 p7 (.lst (us ++ [ve]))) := keep_upd (by simp)
          refine ⟨_, _, _, us ++ [ve], rfl, same_mut (smJ.trans r14) n17, kp ps _ (by simp [ne7]) (r14 _ _ esJ), upd_same, ?_, dp_keep kp nt (tupO_plan _ _) (dp_same r14 _ _ dPJ), dp_keep kp nt (tupO_s3 _) (dp_same r14 _ _ dNJ)⟩
          rw [hpd, cc]
          exact dpa_app (dpa_keep kp nt (fun d hd => by obtain ⟨x, _, rfl⟩ := List.mem_map.mp hd; exact pairD_tup _ _ _) (dpa_same r14 _ _ dU)) (.cons (dp_keep kp nt (pairD_tup _ _ _) de) .nil)
        · have r13 := rr.trans r3
          refine ⟨_, _, _, us, rfl, smJ.trans r13, r13 _ _ esJ, r13 _ _ e7J, ?_, dp_same r13 _ _ dPJ, dp_same r13 _ _ dNJ⟩
          rw [hpd, cc]
          show DpAll K J3 us (partsD (figS fs) st ca i ++ [])
          rw [List.append_nil]
          exact dpa_same r13 _ _ dU
      · rintro τ J ⟨z8, z9, z10, us, rfl, smJ, esJ, e7J, dU, dPJ, dNJ⟩
        have dL : Dp K J (.ref p7) (.list (partsD (figS fs) st ca ca.length)) := .lst (.inl (.inl e7J)) dU
        have shE : ShN 3 (.list ([] : List PyData)) := sh_lst fun d hd => nomatch hd
        cases e : signIn (figS fs) st ca with
        | none =>
          rw [parts_none e] at dL
          refine hold (ifYes (EvB.is (evb_test (ev_eq (d := .list []) (e := .list []) (evd_var rfl dL) (EvK.dat (EvO.k (evo_lst eds_nil (by show 0 ≤ 100000; omega)))) (shE.ok (by omega)) (shE.ok (by omega)))) (eqv_self shE)) fun J1 r1 => ?_)
          refine retV (ev_var rfl) fun J2 r2 => q ps J2 (s1.free np2) ((s1.trans smJ).trans (r1.trans r2)) ?_
          rw [split, certain_stop e, List.append_nil]
          exact (r1.trans r2) _ _ esJ
        | some x =>
          obtain ⟨r, hr⟩ := parts_some e
          obtain ⟨hx, wx⟩ := signIn_some e
          have hx0 : (0 : Int) ≤ (x : Int) := by omega
          have hx1 : (x : Int) < ca.length := by omega
          have shL := partsD_sh (figS fs) st ca ca.length
          rw [hr] at dL shL
          refine hold (ifNo (EvB.is (evb_test (ev_eq (e := .list []) (evd_var rfl dL) (EvK.dat (EvO.k (evo_lst eds_nil (by show 0 ≤ 100000; omega)))) (shL.ok (by omega)) (shE.ok (by omega)))) (by rw [PyData.eqv]; exact SeqAt.eqvAll_other_length (by simp))) fun J1 r1 => ?_)
          have dL1 := dp_same r1 _ _ dL
          have p0 : ∀ {σ : L2.St} {J : Hp}, σ[7]? = some (some (.ref p7)) → Dp K J (.ref p7) (.list (pairD st ca x :: r)) → EvD K (tOp (rIxL K) (tVar 7) (tC (.int 0))) σ J (pairD st ca x) := fun h1 h2 => evd_ix (n := 0) (evd_var h1 h2) ev_c (by omega) rfl
          have hl : (ss.map V.int).length ≤ 100000 := by rw [List.length_map]; omega
          refine hold (appV (v := .int (x : Int)) rfl (r1 _ _ esJ) hl (EvD.v_int (evd_ixT (n := 0) (p0 rfl dL1) ev_c (by omega) rfl)) fun J2 r2 => ?_)
          have r12 := r1.trans r2
          have nt : NoTup [ps] J2 := notup_of fun a ha => by
            rw [List.mem_singleton.mp ha]
            exact ⟨_, r12 _ _ esJ, nt_lst _⟩
          have kp : Keep [ps] J2 (upd J2 ps (.lst (ss.map V.int ++ [.int (x : Int)]))) := keep_upd (by simp)
          have esL : upd J2 ps (.lst (ss.map V.int ++ [.int (x : Int)])) ps = some (.lst ((ss ++ [(x : Int)]).map V.int)) := by
            rw [upd_same, List.map_append]
            rfl
          have smL : Same H1 (upd J2 ps (.lst (ss.map V.int ++ [.int (x : Int)]))) := same_mut (smJ.trans r12) np2
          have dPL := dp_keep kp nt (tupO_plan _ _) (dp_same r12 _ _ dPJ)
          have e7L := kp p7 _ (by simp [ne7.symm]) (r12 _ _ e7J)
          have dUL : DpAll K (upd J2 ps (.lst (ss.map V.int ++ [.int (x : Int)]))) us (pairD st ca x :: r) := by
            rw [← hr]
            exact dpa_keep kp nt (fun d hd => by obtain ⟨y, _, rfl⟩ := List.mem_map.mp hd; exact pairD_tup _ _ _) (dpa_same r12 _ _ dU)
          have dLL : Dp K (upd J2 ps (.lst (ss.map V.int ++ [.int (x : Int)]))) (.ref p7) (.list (pairD st ca x :: r)) := .lst (.inl (.inl e7L)) dUL
          generalize upd J2 ps (.lst (ss.map V.int ++ [.int (x : Int)])) = L at esL smL dPL dLL
          refine hold (asgD (K := K) (d := (partAt st ca (x : Int)).d) (evd_ixT (n := 1) (p0 rfl dLL) ev_c (by omega) rfl) fun vn' L1 r3 dn' => ?_)
          have esL1 := r3 _ _ esL
          refine hold (asgLastD (K := K) (d := planD (grown ca g (x : Int)) g) (evd_lbehind (evd_var rfl (dp_same r3 _ _ dPL)) (ev_ixLast rfl esL1) pa hx0 hx1) fun v0' L2' r4 dp' => ?_)
          refine ⟨_, ?_, ss ++ [(x : Int)], v0', vn', _, _, _, _, _, rfl, (smL.trans r3).trans r4, r4 _ _ esL1, ?_, ?_, ?_, ?_, ?_, rfl⟩
          · rw [List.length_append, List.length_singleton]
            omega
          · rw [eA]
            exact dp'
          · rw [eT x (by omega)]
            exact dp_same r4 _ _ dn'
          · intro z hz
            rcases List.mem_append.mp hz with hz | hz
            · exact sg z hz
            · rw [List.mem_singleton.mp hz]
              omega
          · rw [List.length_append, List.length_singleton]
            omega
          · rw [eT x (by omega)]
            exact wx
    · have hge := of_decide_eq_false c
      have e0 : m - ss.length = 0 := by omega
      rw [e0]
      rfl
theorem evo_lcertain {ta tb tc : TE} {σ : L2.St} {H : Hp} {cs fs : List Int} {g : Int} {m : Nat} (h : EvD K ta σ H (planD cs g)) (h2 : EvV tb σ H (.int (m : Int))) (h3 : EvD K tc σ H (.list (fs.map PyData.int))) (pl : Plan cs g) (hm : m ≤ 60) (fb : Bits fs) (fl : fs.length ≤ 4000) :
    EvO K (tCall (sp_lcertain K) [] E0 (tCons ta (tCons tb (tCons tc tNil)))) σ H ((sgn cs g m fs).map PyData.int) :=
  evo_call (eds_cons h (eds_cons h2.int (eds_cons h3 eds_nil))) fun vs H1 Q s1 d1 k => by
    obtain ⟨v, u, x, rfl, a1, a2, a3⟩ := dpaN3 d1
    cases dp_int a2
    exact ⟨_, _, cs, fs, g, m, rfl, a1, pl, hm, a3, fb, fl, fun p H2 np s2 e2 => k p _ H2 np s2 e2 (dpa_ints _)⟩
end

theorem len_if (p : Prop) [Decidable p] (v : V) : (if p then [v] else []).length ≤ 1 := by
  by_cases h : p
  · rw [if_pos h]; exact Nat.le_refl 1
  · rw [if_neg h]; exact Nat.zero_le 1
section
variable {P : Program} {w : World} {K : PySem.W.Frag} {mg : Str → Option Value} {base : Heap} {f : Addr} {fd : FuncData}
abbrev s__law_word : Stmt := topS 53
theorem sc__law_word : FnScope ["_law_e", "_law_words"] ["_law_e"] (defScope s__law_word) := ⟨rfl, rfl, rfl, by decide +kernel, rfl, by decide +kernel, by decide +kernel⟩

def sp_word (K : PySem.W.Frag) (z : Addr × Obj) : Sp := fun vs H Q _ => ∃ e : Err, vs = [.ref z.1] ∧ Zc (.ref (errC K e)) none z.2 ∧ (∃ us, z.2.data = .fields us) ∧ ∀ p H', H p = none → Same H H' → H' p = some (.lst [.str (wordOf e)]) → Q (.ref p) H'
theorem ok_word (F : FnP K "_law_word" s__law_word f fd) (T : ErrTop K) (g_BadPlan : mg "BadPlan" = some (.ref (errC K .plan))) (g_BadSign : mg "BadSign" = some (.ref (errC K .sign))) (g_BadCount : mg "BadCount" = some (.ref (errC K .count))) (g_BadFigures : mg "BadFigures" = some (.ref (errC K .figures))) (g_Ended : mg "Ended" = some (.ref (errC K .ended)))
    (z_isinstance : mg "isinstance" = none) (z_int : mg "int" = none) (z_ValueError : mg "ValueError" = none) : FnZ P w K mg base 1 f fd ["_law_e"] (sp_word K) := by
  refine fnz_of F sc__law_word (fun z vs H Q E h => ?_) (fun cdv B out t H vs Q E z h => ?_)
  · obtain ⟨_, rfl, _⟩ := h
    rfl
  · obtain ⟨a, oe⟩ := z
    obtain ⟨e, rfl, hz, hf, q⟩ := h
    refine ⟨_, (pss_cons (ps_set (i := 1) sc__law_word.nd rfl (Or.inl rfl) (pe_op op_cat (pe_op op_rep (pe_lst (pa_cons pe_str pa_nil)) (pe_callTy call_int1 (by rfl) z_int (by decide +kernel) (pa_cons (pe_callB (call_isZ (T.exc e) List.mem_cons_self hz hf) (by rfl) z_isinstance (by decide +kernel) (pa_cons (pv 0) (pa_cons (pe_glob (v := .ref _) rfl g_BadPlan rfl) pa_nil))) pa_nil))) (pe_op op_rep (pe_lst (pa_cons pe_str pa_nil)) (pe_callTy call_int1 (by rfl) z_int (by decide +kernel) (pa_cons (pe_callB (call_isZ (T.exc e) List.mem_cons_self hz hf) (by rfl) z_isinstance (by decide +kernel) (pa_cons (pv 0) (pa_cons (pe_glob (v := .ref _) rfl g_BadSign rfl) pa_nil))) pa_nil)))))
      (pss_cons (ps_set (i := 1) sc__law_word.nd rfl (Or.inl rfl) (pe_op op_cat (pe_op op_cat (pv 1) (pe_op op_rep (pe_lst (pa_cons pe_str pa_nil)) (pe_callTy call_int1 (by rfl) z_int (by decide +kernel) (pa_cons (pe_callB (call_isZ (T.exc e) List.mem_cons_self hz hf) (by rfl) z_isinstance (by decide +kernel) (pa_cons (pv 0) (pa_cons (pe_glob (v := .ref _) rfl g_BadCount rfl) pa_nil))) pa_nil)))) (pe_op op_rep (pe_lst (pa_cons pe_str pa_nil)) (pe_callTy call_int1 (by rfl) z_int (by decide +kernel) (pa_cons (pe_callB (call_isZ (T.exc e) List.mem_cons_self hz hf) (by rfl) z_isinstance (by decide +kernel) (pa_cons (pv 0) (pa_cons (pe_glob (v := .ref _) rfl g_BadFigures rfl) pa_nil))) pa_nil)))))
      (pss_one (ps_ret (pe_lst (pa_cons (pe_op op_repS (pe_join pe_str (pe_op op_cat (pv 1) (pe_op op_rep (pe_lst (pa_cons pe_str pa_nil)) (pe_callTy call_int1 (by rfl) z_int (by decide +kernel) (pa_cons (pe_callB (call_isZ (T.exc e) List.mem_cons_self hz hf) (by rfl) z_isinstance (by decide +kernel) (pa_cons (pv 0) (pa_cons (pe_glob (v := .ref _) rfl g_Ended rfl) pa_nil))) pa_nil))))) (pe_callTy call_int1 (by rfl) z_int (by decide +kernel) (pa_cons (pe_callB (call_isZ (T.exc e) List.mem_cons_self hz hf) (by rfl) z_isinstance (by decide +kernel) (pa_cons (pv 0) (pa_cons (pe_bltn (v := .ty "ValueError") (u := .type "ValueError") (by rfl) z_ValueError (by decide +kernel) rfl) pa_nil))) pa_nil))) pa_nil)))))), ?_⟩
    walk_at "rd"
    -- five times: ["name"] * int(isinstance(e, C))
    have bitStep : ∀ (e' : Err) (nm : Str) (H1 : Hp) (p : Addr) (R : V → Hp → Prop), H1 p = some (.lst [.str nm]) → (∀ p2 H2, H1 p2 = none → Same H1 H2 → H2 p2 = some (.lst (if e = e' then [V.str nm] else [])) → R (.ref p2) H2) →
        rIsZ K (errC K e) a [V.ref a, V.ref (errC K e')] H1 fun x H2 => (∃ i, x = V.int i ∧ rRep (V.ref p) (V.int i) H2 R) ∨ ∃ k, x = V.bl k ∧ rRep (V.ref p) (V.int (if k = true then 1 else 0)) H2 R := by
      intro e' nm H1 p R hp k
      refine ⟨.ref _, .ref _, decide (e = e'), rfl, fun u h => h, T.kit e e', .inr ⟨_, rfl, p, _, _, rfl, rfl, hp, ?_, ?_, ?_, fun p2 np2 => ?_⟩⟩
      · by_cases c : decide (e = e') = true
        · rw [if_pos c]; decide
        · rw [if_neg c]; decide
      · by_cases c : decide (e = e') = true
        · rw [if_pos c]; decide
        · rw [if_neg c]; decide
      · by_cases c : decide (e = e') = true
        · rw [if_pos c]; exact (by decide : 1 ≤ sizeLine)
        · rw [if_neg c]; exact (by decide : 0 ≤ sizeLine)
      · refine k p2 _ np2 (same_upd np2) ?_
        rw [upd_same]
        by_cases c : e = e'
        · rw [if_pos (decide_eq_true c), if_pos c]
          rfl
        · rw [if_neg (fun z => c (of_decide_eq_true z)), if_neg c]
          rfl
    have catStep : ∀ (H1 : Hp) (p1 p2 : Addr) (xs ys : List V) (R : V → Hp → Prop), H1 p1 = some (.lst xs) → H1 p2 = some (.lst ys) → xs.length + ys.length ≤ 1000 → (∀ p H2, H1 p = none → Same H1 H2 → H2 p = some (.lst (xs ++ ys)) → R (.ref p) H2) → rCat (V.ref p1) (V.ref p2) H1 R := by
      intro H1 p1 p2 xs ys R h1 h2 hz k
      exact ⟨p1, p2, xs, ys, rfl, rfl, h1, h2, Nat.le_trans hz (by decide), fun p np => k p _ np (same_upd np) upd_same⟩
    refine ⟨by decide, fun a1 n1 => ?_⟩
    refine bitStep .plan "plan" _ a1 _ upd_same fun b1 H1 m1 s1 e1 => ?_
    refine ⟨by decide, fun a2 n2 => ?_⟩
    have t1 : Same H H1 := (same_upd n1).trans s1
    have u2 := same_upd n2 (o := HO.lst [V.str "sign"])
    refine bitStep .sign "sign" _ a2 _ upd_same fun b2 H2 m2 s2 e2 => ?_
    refine catStep H2 b1 b2 _ _ _ (s2 _ _ (u2 _ _ e1)) e2 (by have := len_if (e = .plan) (V.str "plan"); have := len_if (e = .sign) (V.str "sign"); omega) fun c2 H3 m3 s3 e3 => ?_
    have t3 : Same H H3 := ((t1.trans u2).trans s2).trans s3
    refine ⟨by decide, fun a3 n3 => ?_⟩
    have u3 := same_upd n3 (o := HO.lst [V.str "count"])
    refine bitStep .count "count" _ a3 _ upd_same fun b3 H4 m4 s4 e4 => ?_
    refine catStep H4 c2 b3 _ _ _ (s4 _ _ (u3 _ _ e3)) e4 (by rw [List.length_append]; have := len_if (e = .plan) (V.str "plan"); have := len_if (e = .sign) (V.str "sign"); have := len_if (e = .count) (V.str "count"); omega) fun c3 H5 m5 s5 e5 => ?_
    have t5 : Same H H5 := ((t3.trans u3).trans s4).trans s5
    refine ⟨by decide, fun a4 n4 => ?_⟩
    have u4 := same_upd n4 (o := HO.lst [V.str "figures"])
    refine bitStep .figures "figures" _ a4 _ upd_same fun b4 H6 m6 s6 e6 => ?_
    refine catStep H6 c3 b4 _ _ _ (s6 _ _ (u4 _ _ e5)) e6 (by rw [List.length_append, List.length_append]; have := len_if (e = .plan) (V.str "plan"); have := len_if (e = .sign) (V.str "sign"); have := len_if (e = .count) (V.str "count"); have := len_if (e = .figures) (V.str "figures"); omega) fun c4 H7 m7 s7 e7 => ?_
    have t7 : Same H H7 := ((t5.trans u4).trans s6).trans s7
    refine ⟨by decide, fun a5 n5 => ?_⟩
    have u5 := same_upd n5 (o := HO.lst [V.str "ended"])
    refine bitStep .ended "ended" _ a5 _ upd_same fun b5 H8 m8 s8 e8 => ?_
    refine catStep H8 c4 b5 _ _ _ (s8 _ _ (u5 _ _ e7)) e8 (by rw [List.length_append, List.length_append, List.length_append]; have := len_if (e = .plan) (V.str "plan"); have := len_if (e = .sign) (V.str "sign"); have := len_if (e = .count) (V.str "count"); have := len_if (e = .figures) (V.str "figures"); have := len_if (e = .ended) (V.str "ended"); omega) fun c5 H9 m9 s9 e9 => ?_
    have t9 : Same H H9 := ((t7.trans u5).trans s8).trans s9
    have ew : (((((if e = .plan then [V.str "plan"] else []) ++ if e = .sign then [V.str "sign"] else []) ++ if e = .count then [V.str "count"] else []) ++ if e = .figures then [V.str "figures"] else []) ++ if e = .ended then [V.str "ended"] else []) = [wordOf e].map V.str := by
      cases e <;> rfl
    rw [ew] at e9
    have hwl : (wordOf e).length ≤ 7 := by cases e <;> decide
    refine ⟨c5, rfl, [wordOf e], .inl (.inl (.inl e9)), ?_, .ty "ValueError", .type "ValueError", true, rfl, fun u h => h, T.kitV e, .inr ⟨true, rfl, Txt.join " " [wordOf e], 1, rfl, rfl, ?_, by decide, by decide, by decide, fun p np => ?_⟩⟩
    · show ([(wordOf e).length] : List Nat).sum + 1 * 1 ≤ 16777216
      simp only [List.sum_cons, List.sum_nil]
      omega
    · cases e <;> decide +kernel
    · refine q p _ (t9.free np) (t9.trans (same_upd np)) ?_
      rw [upd_same]
      have : Txt.mul (Txt.join " " [wordOf e]) 1 = wordOf e := by cases e <;> decide +kernel
      rw [this]
/-- the same, by what the suite knows of the error: where it is, its class, its dict -/
def sp_word2 (K : PySem.W.Frag) (a : Addr) (cls : Value) (d : Option Addr) : Sp := fun vs H Q _ => ∃ e : Err, vs = [.ref a] ∧ cls = .ref (errC K e) ∧ d = none ∧ ∀ p H', H p = none → Same H H' → H' p = some (.lst [.str (wordOf e)]) → Q (.ref p) H'
theorem word_imp {a : Addr} {oe : Obj} {cls : Value} {d : Option Addr} (hz : L2N.Zn cls d oe) (hf : ∃ us, oe.data = .fields us) : ∀ vs H Q, sp_word2 K a cls d vs H Q E0 → sp_word K (a, oe) vs H Q E0 := by
  rintro vs H Q ⟨e, rfl, rfl, rfl, q⟩
  exact ⟨e, rfl, hz.zc, hf, q⟩
end

def odds (far : Int) : List PyData := [.int 0, .int (1000001 + far), .bool true, .str "1", .none, .int (-1 - far)]
def badOf (cs : List Int) (at_ : Int) (d : PyData) : PyData := .tuple ((cs.take at_.toNat).map PyData.int ++ [d] ++ (cs.drop (at_ + 1).toNat).map PyData.int)
theorem odds_no {far : Int} (h : 0 ≤ far) : ∀ d ∈ odds far, isWhole d 1 1000000 = false := by
  intro d hd
  simp only [odds, List.mem_cons, List.not_mem_nil, or_false] at hd
  rcases hd with rfl | rfl | rfl | rfl | rfl | rfl
  · exact isWhole_out (by omega)
  · exact isWhole_out (by omega)
  · rfl
  · rfl
  · rfl
  · exact isWhole_out (by omega)
theorem noplans {cs : List Int} {g far at_ : Int} (hf : 0 ≤ far) (r : PyData) (h : r ∈ (List.map (fun d => PyData.tuple [d, PyData.int g]) (List.map (badOf cs at_) (odds far)) ++ [PyData.tuple [.tuple (cs.map PyData.int), .int (-1)], .tuple [.tuple (cs.map PyData.int), .int (1000001 + far)], .tuple [.tuple (cs.map PyData.int), .bool true], .tuple [.list (cs.map PyData.int), .int g]]) ++
    [PyData.list [.tuple (cs.map PyData.int), .int g], .tuple [.tuple (cs.map PyData.int)], .tuple [.tuple ((cs.map PyData.int).take (1 : Int).toNat), .int g], .tuple [.tuple (List.replicate (9 : Int).toNat [PyData.int 1]).flatten, .int g]]) : isPlan r = false := by
  rcases List.mem_append.mp h with h | h
  · rcases List.mem_append.mp h with h | h
    · obtain ⟨d, hd, rfl⟩ := List.mem_map.mp h
      obtain ⟨e, he, rfl⟩ := List.mem_map.mp hd
      exact noplan_count (d := e) (by simp) (odds_no hf e he)
    · simp only [List.mem_cons, List.not_mem_nil, or_false] at h
      rcases h with rfl | rfl | rfl | rfl
      · exact noplan_gain (isWhole_out (by omega))
      · exact noplan_gain (isWhole_out (by omega))
      · exact noplan_gain rfl
      · rfl
  · simp only [List.mem_cons, List.not_mem_nil, or_false] at h
    rcases h with rfl | rfl | rfl | rfl
    · rfl
    · rfl
    · show (decide (2 ≤ ((cs.map PyData.int).take 1).length) && _ && _ && _) = false
      rw [decide_eq_false (by rw [List.length_take]; omega)]
      rfl
    · rfl
section
variable {P : Program} {w : World} {K : PySem.W.Frag} {mg : Str → Option Value} {base : Heap} {f : Addr} {fd : FuncData}
abbrev s__law_no_plan : Stmt := topS 54
theorem sc__law_no_plan : FnScope ["_law_plan_here", "_law_cell", "_law_counts", "_law_gain", "_law_far", "_law_at", "_law_bad", "_law_one", "_law_some"] ["_law_plan_here", "_law_cell"] (defScope s__law_no_plan) := ⟨rfl, rfl, rfl, by decide +kernel, rfl, by decide +kernel, by decide +kernel⟩

def sp_no_plan (K : PySem.W.Frag) : Sp := fun vs H Q _ => ∃ (v : V) (cs : List Int) (g c : Int), vs = [v, .int c] ∧ Dp K H v (planD cs g) ∧ Plan cs g ∧ ∀ v' H' d, Same H H' → Dp K H' v' d → isPlan d = false → Q v' H'
theorem ok_no_plan (F : FnP K "_law_no_plan" s__law_no_plan f fd) (z_len : mg "len" = none) (z_list : mg "list" = none) : FnOk P w K mg base CX0 1 f fd ["_law_plan_here", "_law_cell"] (sp_no_plan K) := by
  refine F.ok sc__law_no_plan (fun vs H Q E h => ?_) (fun cdv A outer s H vs Q E hr h => ?_)
  · obtain ⟨_, _, _, _, rfl, _⟩ := h
    rfl
  · obtain ⟨v, cs, g, c, rfl, hd, pl, q⟩ := h
    refine ⟨_, PSs.nox (pss_hold (ps_asg (pv 0) (pg_tupK (K := K) (n := 2) rfl rfl (pgs_cons (pg_name (i := 2) sc__law_no_plan.nd rfl (.inr rfl)) (pgs_cons (pg_name (i := 3) sc__law_no_plan.nd rfl (.inr rfl)) pgs_nil))))
      (pss_hold (ps_set (i := 4) sc__law_no_plan.nd rfl (Or.inl rfl) (pe_op op_mod (pe_op op_fdiv (pv 1) pe_int) (pe_op op_pow pe_int pe_int)))
      (pss_hold (ps_set (i := 5) sc__law_no_plan.nd rfl (Or.inr rfl) (pe_op op_mod (pe_op op_fdiv (pv 1) pe_int) (pe_callB (lenK (K := K) rfl) (by rfl) z_len (by decide +kernel) (pa_cons (pv 2) pa_nil))))
      (pss_hold (ps_setLc (i := 6) (own := [("_law_one", 7)]) (g := gName 7) rfl sc__law_no_plan.nd rfl rfl (sw_true rfl rfl rfl (by decide +kernel)) (pi_listK (K := K) rfl (pe_lst (pa_cons pe_int (pa_cons (pe_op op_add pe_int (pv 4)) (pa_cons pe_bl (pa_cons pe_str (pa_cons pe_non (pa_cons (pe_op op_sub (pe_un un_neg pe_int) (pv 4)) pa_nil)))))))) (blkOk_by (own := [("_law_one", 7)]) (N := ["_law_plan_here", "_law_cell", "_law_counts", "_law_gain", "_law_far", "_law_at", "_law_bad", "_law_one", "_law_some"]) (sc := defScope s__law_no_plan) (by decide +kernel)) (fun _ _ _ _ _ => pg_name (i := 7) sc__law_no_plan.nd rfl (Or.inl rfl)) (fun _ _ _ _ _ => pts_nil) (fun _ _ _ _ _ => (pe_op (op_catK (K := K) rfl) (pe_op (op_catK (K := K) rfl) (pe_slice (sl_tupK (K := K) rfl) (pv 2) po_none (po_some (pv 5))) (pe_tup (pa_cons (pv 7) pa_nil))) (pe_slice (sl_tupK (K := K) rfl) (pv 2) (po_some (pe_op op_add (pv 5) pe_int)) po_none))))
      (pss_hold (ps_set (i := 8) sc__law_no_plan.nd rfl (Or.inl rfl) (pe_op op_cat (pe_lc (own := [("_law_one", 7)]) (g := gName 7) rfl sc__law_no_plan.nd (pi_listK (K := K) rfl (pv 6)) (blkOk_by (own := [("_law_one", 7)]) (N := ["_law_plan_here", "_law_cell", "_law_counts", "_law_gain", "_law_far", "_law_at", "_law_bad", "_law_one", "_law_some"]) (sc := defScope s__law_no_plan) (by decide +kernel)) (fun _ _ _ _ _ => pg_name (i := 7) sc__law_no_plan.nd rfl (Or.inl rfl)) (fun _ _ _ _ _ => pts_nil) (fun _ _ _ _ _ => (pe_tup (pa_cons (pv 7) (pa_cons (pv 3) pa_nil))))) (pe_lst (pa_cons (pe_tup (pa_cons (pv 2) (pa_cons (pe_un un_neg pe_int) pa_nil))) (pa_cons (pe_tup (pa_cons (pv 2) (pa_cons (pe_op op_add pe_int (pv 4)) pa_nil))) (pa_cons (pe_tup (pa_cons (pv 2) (pa_cons pe_bl pa_nil))) (pa_cons (pe_tup (pa_cons (pe_callTy (listK (K := K) rfl) (by rfl) z_list (by decide +kernel) (pa_cons (pv 2) pa_nil)) (pa_cons (pv 3) pa_nil))) pa_nil)))))))
      (pss_one (ps_ret (pe_ix (ix_listK (K := K) rfl) (pe_op op_cat (pv 8) (pe_lst (pa_cons (pe_lst (pa_cons (pv 2) (pa_cons (pv 3) pa_nil))) (pa_cons (pe_tup (pa_cons (pv 2) pa_nil)) (pa_cons (pe_tup (pa_cons (pe_slice (sl_tupK (K := K) rfl) (pv 2) po_none (po_some pe_int)) (pa_cons (pv 3) pa_nil))) (pa_cons (pe_tup (pa_cons (pe_op (op_repTK (K := K) rfl) (pe_tup (pa_cons pe_int pa_nil)) pe_int) (pa_cons (pv 3) pa_nil))) pa_nil)))))) (pe_op op_mod (pv 1) pe_int) (fun _ _ => rfl))))))))), ?_⟩
    walk_at "rd"
    obtain ⟨a, cc, rfl, ha, hc⟩ := plan_at hd
    refine ⟨a, rfl, _, ha, rfl, .ref cc, _, rfl, .int g, [], rfl, rfl, ?_⟩
    have l8 := pl.eight
    have l2 := pl.two
    have hl : (cs.map V.int).length = cs.length := List.length_map ..
    walk_at "nx"
    refine ⟨⟨by decide, by decide⟩, ⟨by decide, by decide, by decide⟩, by decide, ?_⟩
    have hf0 : 0 ≤ c / 14 % 10 ^ Int.toNat 20 := Int.emod_nonneg _ (by decide)
    generalize c / 14 % 10 ^ Int.toNat 20 = far at hf0 ⊢
    walk_at "nx"
    refine ⟨⟨by decide, by decide⟩, _, .inr hc, ?_⟩
    rw [hl]
    refine ⟨by omega, ?_⟩
    have ha0 : 0 ≤ c / 14 % (cs.length : Int) := Int.emod_nonneg _ (by omega)
    have ha1 : c / 14 % (cs.length : Int) < cs.length := Int.emod_lt_of_pos _ (by omega)
    generalize c / 14 % (cs.length : Int) = at_ at ha0 ha1 ⊢
    have hcd : Dp K H (.ref cc) (.tuple (cs.map PyData.int)) := .tup hc (dpa_ints cs)
    have lo : (odds far).length = 6 := rfl
    refine hold (asgO (evo_lc (w := .none) (ds := odds far) (fun _ => true) (badOf cs at_) (EvO.k (evo_lst (eds_cons evd_int (eds_cons (EvV.int (ev_op0 ev_c (ev_var rfl))) (eds_cons evd_bl (eds_cons evd_str (eds_cons evd_non (eds_cons (EvV.int (ev_op0 (ev_neg ev_c) (ev_var rfl))) eds_nil)))))) (by omega))) (by omega)
      (fun x d H1 R _ _ _ k => yes_t k) (fun x d H1 D R hmem _ s1 hx hD s2 k => ?_)) fun p vs H1 np s1 e1 d1 => ?_)
    · refine exv_catT hD (exv_catT hD (exv_take hD (exv_var rfl (dp_same s2 _ _ hcd)) (ev_var rfl) ha0 ?_) (exv_tup hD (exs_cons (exv_var rfl hx) exs_nil) ?_) ?_) (exv_drop hD (exv_var rfl (dp_same s2 _ _ hcd)) (ev_op0 (ev_var rfl) ev_c) ?_ ?_) ?_ H1 R (Same.refl _) (fun v H2 s3 d3 => k v H2 s3 ?_)
      · rw [List.length_map]; omega
      · show 1 ≤ 100000; omega
      · rw [List.length_take, List.length_map]; show _ + 1 ≤ _; omega
      · omega
      · rw [List.length_map]; omega
      · rw [List.length_append, List.length_take, List.length_drop, List.length_map]; show _ + 1 + _ ≤ _; omega
      · rw [← List.map_take, ← List.map_drop] at d3
        exact d3
    · rw [filter_yes] at d1
      have lb : ((odds far).map (badOf cs at_)).length = 6 := rfl
      refine hold (asgO (evo_cat (EvO.k (evo_lc (w := .none) (fun _ => true) (fun d => .tuple [d, .int g]) (evk_var rfl e1 d1) (by omega) (fun x d H1 R _ _ _ k => yes_t k) (fun x d H2 D R hmem _ s1 hx hD s2 k =>
          exv_tup hD (exs_cons (exv_var rfl hx) (exs_cons (exv_var rfl (.int g)) exs_nil)) (by show 2 ≤ 100000; omega) H2 R (Same.refl _) k)))
        (EvO.k (evo_lst (eds_cons (evd_tup (eds_cons (evd_var rfl (dp_same s1 _ _ hcd)) (eds_cons (EvV.int (ev_neg ev_c)) eds_nil)) (by show 2 ≤ 100000; omega))
          (eds_cons (evd_tup (eds_cons (evd_var rfl (dp_same s1 _ _ hcd)) (eds_cons (EvV.int (ev_op0 ev_c (ev_var rfl))) eds_nil)) (by show 2 ≤ 100000; omega))
          (eds_cons (evd_tup (eds_cons (evd_var rfl (dp_same s1 _ _ hcd)) (eds_cons evd_bl eds_nil)) (by show 2 ≤ 100000; omega))
          (eds_cons (evd_tup (eds_cons (EvK.dat (EvO.k (evd_listOf (evd_var rfl (dp_same s1 _ _ hcd))))) (eds_cons (evd_var rfl (.int g)) eds_nil)) (by show 2 ≤ 100000; omega)) eds_nil)))) (by show 4 ≤ 100000; omega))) ?_) fun p2 vs2 H2 np2 s2 e2 d2 => ?_)
      · rw [filter_yes, List.length_map]; show 6 + 4 ≤ 100000; omega
      · rw [filter_yes] at d2
        have t2 := s1.trans s2
        have hc14 : 0 ≤ c % 14 := Int.emod_nonneg _ (by decide)
        have hc14b : c % 14 < 14 := Int.emod_lt_of_pos _ (by decide)
        have hlen : ((List.map (fun d => PyData.tuple [d, PyData.int g]) (List.map (badOf cs at_) (odds far)) ++ [PyData.tuple [.tuple (cs.map PyData.int), .int (-1)], .tuple [.tuple (cs.map PyData.int), .int (1000001 + far)], .tuple [.tuple (cs.map PyData.int), .bool true], .tuple [.list (cs.map PyData.int), .int g]]) ++
          [PyData.list [.tuple (cs.map PyData.int), .int g], .tuple [.tuple (cs.map PyData.int)], .tuple [.tuple ((cs.map PyData.int).take (1 : Int).toNat), .int g], .tuple [.tuple (List.replicate (9 : Int).toNat [PyData.int 1]).flatten, .int g]]).length = 14 := rfl
        obtain ⟨r, hr⟩ : ∃ r, ((List.map (fun d => PyData.tuple [d, PyData.int g]) (List.map (badOf cs at_) (odds far)) ++ [PyData.tuple [.tuple (cs.map PyData.int), .int (-1)], .tuple [.tuple (cs.map PyData.int), .int (1000001 + far)], .tuple [.tuple (cs.map PyData.int), .bool true], .tuple [.list (cs.map PyData.int), .int g]]) ++
          [PyData.list [.tuple (cs.map PyData.int), .int g], .tuple [.tuple (cs.map PyData.int)], .tuple [.tuple ((cs.map PyData.int).take (1 : Int).toNat), .int g], .tuple [.tuple (List.replicate (9 : Int).toNat [PyData.int 1]).flatten, .int g]])[(c % 14).toNat]? = some r := ⟨_, List.getElem?_eq_getElem (by rw [hlen]; omega)⟩
        refine hold (retD (evd_ix (n := c % 14) (EvK.dat (EvO.k (evo_cat (evk_var rfl e2 d2) (EvO.k (evo_lst (eds_cons (EvK.dat (EvO.k (evo_lst (eds_cons (evd_var rfl (dp_same t2 _ _ hcd)) (eds_cons (evd_var rfl (.int g)) eds_nil)) (by show 2 ≤ 100000; omega))))
            (eds_cons (evd_tup (eds_cons (evd_var rfl (dp_same t2 _ _ hcd)) eds_nil) (by show 1 ≤ 100000; omega))
            (eds_cons (evd_tup (eds_cons (evd_take (evd_var rfl (dp_same t2 _ _ hcd)) ev_c (by omega) (by rw [List.length_map]; omega)) (eds_cons (evd_var rfl (.int g)) eds_nil)) (by show 2 ≤ 100000; omega))
            (eds_cons (evd_tup (eds_cons (evd_repT (evd_tup (eds_cons evd_int eds_nil) (by show 1 ≤ 100000; omega)) ev_c (by simp) (by omega) (by omega) (by show 1 ≤ 1000; omega)) (eds_cons (evd_var rfl (.int g)) eds_nil)) (by show 2 ≤ 100000; omega)) eds_nil))))
            (by show 4 ≤ 100000; omega))) (by show 10 + 4 ≤ 100000; omega)))) (ev_op (ev_var rfl) ev_c (by decide)) hc14 hr) fun v' H3 s3 d3 => ?_)
        refine q v' H3 r (t2.trans s3) d3 ?_
        exact noplans hf0 r (List.mem_of_getElem? hr)
end
section
variable {K : PySem.W.Frag} {te tb : TE} {σ : L2.St} {H : Hp} {cs : List Int} {g c : Int} {i : Nat} {u : TS} {D : Ends}
theorem asg_noplan (hp : EvD K te σ H (planD cs g)) (pl : Plan cs g) (hc : EvV tb σ H (.int c)) (k : ∀ v H1 r, Same H H1 → Dp K H1 v r → isPlan r = false → u D (σ.set i (some v)) H1) : tSeq (tAsg (tCall (sp_no_plan K) [] E0 (tCons te (tCons tb tNil))) (gName i)) u D σ H :=
  hp H _ (Same.refl H) fun v H2 s2 d2 => hc H2 _ s2 fun H3 s3 => ⟨v, cs, g, c, rfl, dp_same s3 _ _ d2, pl, fun v' H4 r s4 d4 hr => k v' H4 r ((s2.trans s3).trans s4) d4 hr⟩
end

section
variable {P : Program} {w : World} {K : PySem.W.Frag} {mg : Str → Option Value} {base : Heap} {f fW : Addr} {fd fdW : FuncData}
theorem evd_word2 {te : TE} {E : L2.St → XK} {σ : L2.St} {H : Hp} {a : Addr} {e : Err} (h : EvV te σ H (.ref a)) : EvD K (tCallS (sp_word2 K a (.ref (errC K e)) none) E (tCons te tNil)) σ H (.list [.str (wordOf e)]) := fun H1 Q s1 k =>
  h H1 _ s1 fun H2 s2 => ⟨e, rfl, rfl, rfl, fun p H3 np s3 e3 => k _ H3 (s2.trans s3) (.lst (.inl (.inl e3)) (.cons (.str _) .nil))⟩
/-- take, where it is refused -/
theorem rtakeNo {E : L2.St → XK} {te ta : TE} {σ : L2.St} {H : Hp} {p l : Addr} {cs as : List Int} {g : Int} {m : Nat} {x : PyData} {Q : VK} (h : EvV te σ H (.ref p)) (ha : EvD K ta σ H x) (R : RdAt K (rdC K) H p l cs g m as) (O : RdO cs g m as)
    (hno : ∀ fs : List Int, x = .list (fs.map PyData.int) → Bits fs → as.length + fs.length ≤ 4000 → False) (k : ∀ H', Same H H' → E σ (.ref (errC K .figures)) none H') : tMX (rdC K) "take" (sp_rtake K) E te (tCons ta tNil) σ H Q :=
  h H _ (Same.refl _) fun H1 s1 => by
    obtain ⟨dx, S, PL, I, e, _⟩ := (R.same s1).at_
    refine ⟨p, dx, _, rfl, e, rd_no (by decide +kernel), ?_⟩
    exact ha H1 _ s1 fun u H2 s2 d2 => ⟨p, l, cs, as, g, m, u, x, rfl, R.same (s1.trans s2), O, d2, fun fs ex hb hl => (hno fs ex hb hl).elim, fun _ H3 s3 => k H3 ((s1.trans s2).trans s3)⟩
/-- take, of figures -/
theorem rtakeOk {E : L2.St → XK} {te ta : TE} {σ : L2.St} {H : Hp} {p l : Addr} {cs as fs : List Int} {g : Int} {m : Nat} {Q : VK} (h : EvV te σ H (.ref p)) (ha : EvD K ta σ H (.list (fs.map PyData.int))) (R : RdAt K (rdC K) H p l cs g m as) (O : RdO cs g m as)
    (hb : Bits fs) (hl : as.length + fs.length ≤ 4000) (k : ∀ r H', H r = none → Keep [p, l] H H' → H' r = some (.lst (((sgn cs g m (as ++ fs)).drop (sgn cs g m as).length).map V.int)) → RdAt K (rdC K) H' p l cs g m (as ++ fs) → Q (.ref r) H') : tMX (rdC K) "take" (sp_rtake K) E te (tCons ta tNil) σ H Q :=
  h H _ (Same.refl _) fun H1 s1 => by
    obtain ⟨dx, S, PL, I, e, _⟩ := (R.same s1).at_
    refine ⟨p, dx, _, rfl, e, rd_no (by decide +kernel), ?_⟩
    refine ha H1 _ s1 fun u H2 s2 d2 => ⟨p, l, cs, as, g, m, u, _, rfl, R.same (s1.trans s2), O, d2, fun fs' ex hb' hl' r H3 nr k3 e3 R3 => ?_, fun hno => (hno fs rfl hb hl).elim⟩
    have e2 : fs = fs' := by
      have := congrArg (fun d => itemsOf d) ex
      simp only [itemsOf, toI_map] at this
      exact this
    subst e2
    exact k r H3 ((s1.trans s2).free nr) ((Same.keep (s1.trans s2)).trans k3) e3 R3
/-- a reader is made -/
theorem rmakeOk {E : L2.St → XK} {ta tb : TE} {σ : L2.St} {H : Hp} {cs : List Int} {g : Int} {m : Nat} {Q : VK} (h : EvD K ta σ H (planD cs g)) (h2 : EvV tb σ H (.int (m : Int))) (pl : Plan cs g) (hm : m ≤ 60)
    (k : ∀ p l H', H p = none → H l = none → Same H H' → RdAt K (rdC K) H' p l cs g m [] → Q (.ref p) H') : tMkX (rdC K) (sp_rinit K) E (tCons ta (tCons tb tNil)) σ H Q :=
  h H _ (Same.refl _) fun v H1 s1 d1 => h2 H1 _ s1 fun H2 s2 p dx np ndx hne => by
    have s3 : Same H2 (upd (upd H2 dx (.own p)) p (.ins (rdC K) dx [])) := same_new (same_upd ndx) (by rw [upd_ne hne.symm]; exact np)
    refine ⟨p, dx, v, .int (m : Int), _, _, rfl, upd_same, dp_same (s2.trans s3) _ _ d1, .int _, fun z => ?_, fun _ z => ?_, fun cs' g' m' e1 pl' e2 hm' l H3 nl k3 R => ⟨rfl, ?_⟩⟩
    · rw [isPlan_of pl] at z
      cases z
    · rw [isWhole_int, decide_eq_true (by omega), decide_eq_true (by omega)] at z
      cases z
    · have ec : cs = cs' := by
        have := congrArg countsOf e1
        rw [counts_planD, counts_planD] at this
        exact this
      have eg : g = g' := by
        have := congrArg gainOf e1
        rw [gain_planD, gain_planD] at this
        exact this
      have em : m = m' := by
        have := PyData.int.inj e2
        omega
      subst ec eg em
      have nl2 : H2 l = none := by
        cases e : H2 l with
        | none => rfl
        | some o =>
          rw [s3 _ _ e] at nl
          cases nl
      exact k p l H3 ((s1.trans s2).free np) ((s1.trans s2).free nl2) ((s1.trans s2).trans (k3.over s3 (by simp [np]))) R
theorem rmakeNo {E : L2.St → XK} {ta tb : TE} {σ : L2.St} {H : Hp} {d x : PyData} {Q : VK} (h : EvD K ta σ H d) (h2 : EvD K tb σ H x) (e : Err) (he : (isPlan d = false ∧ e = .plan) ∨ (isPlan d = true ∧ isWhole x 0 60 = false ∧ e = .count))
    (k : ∀ H', Same H H' → E σ (.ref (errC K e)) none H') : tMkX (rdC K) (sp_rinit K) E (tCons ta (tCons tb tNil)) σ H Q :=
  h H _ (Same.refl _) fun v H1 s1 d1 => h2 H1 _ s1 fun u H2 s2 d2 p dx np ndx hne => by
    have s3 : Same H2 (upd (upd H2 dx (.own p)) p (.ins (rdC K) dx [])) := same_new (same_upd ndx) (by rw [upd_ne hne.symm]; exact np)
    refine ⟨p, dx, v, u, d, x, rfl, upd_same, dp_same (s2.trans s3) _ _ d1, dp_same s3 _ _ d2, fun z H4 s4 => ?_, fun z z2 H4 s4 => ?_, fun cs' g' m' e1 pl' e2 hm' => ?_⟩
    · rcases he with ⟨_, rfl⟩ | ⟨h1, _⟩
      · exact k H4 (((s1.trans s2).trans s3).trans s4)
      · rw [z] at h1
        cases h1
    · rcases he with ⟨h1, _⟩ | ⟨_, _, rfl⟩
      · rw [z] at h1
        cases h1
      · exact k H4 (((s1.trans s2).trans s3).trans s4)
    · exfalso
      subst e1 e2
      rcases he with ⟨h1, _⟩ | ⟨_, h2, _⟩
      · rw [isPlan_of pl'] at h1
        cases h1
      · rw [isWhole_int, decide_eq_true (by omega), decide_eq_true (by omega)] at h2
        cases h2
abbrev s__law_made : Stmt := topS 57
theorem sc__law_made : FnScope ["_law_script", "_law_k", "_law_plan_here", "_law_signs_here", "_law_many", "_law_reader"] ["_law_script", "_law_k"] (defScope s__law_made) := ⟨rfl, rfl, rfl, by decide +kernel, rfl, by decide +kernel, by decide +kernel⟩

def sp_made8 (K : PySem.W.Frag) : Sp := fun vs H Q _ => ∃ (v : V) (ns : List Int) (k : Nat) (M : List Addr), vs = [v, .int (k : Int)] ∧ Dp K H v (.list (ns.map PyData.int)) ∧ Live M H ∧
  ∀ (a p l w : Addr) (cs : List Int) (g : Int) (m : Nat) (row : List Int) H', H a = none → H p = none → H l = none → H w = none → Same H H' → (∀ x ∈ [a, p, l, w], H x = none) → Plan cs g → m ≤ 60 → Bits row → row.length ≤ 1500 → l ≠ w → One8 K (rdC K) (a :: p :: l :: w :: M) H' a p l w cs g m row [] 0 → Q (.ref a) H'
theorem ok_made8 (F : FnP K "_law_made" s__law_made f fd) (T_Reader : ClsT K (rdC K) rdN) (c__law_cell_at : Cal P w K mg base CX0 1 "_law_cell_at" ["_law_script", "_law_k"] (sp_cell_at K)) (c__law_plan : Cal P w K mg base CX0 2 "_law_plan" ["_law_cell"] (sp_plan K)) (c__law_signs : Cal P w K mg base CX0 2 "_law_signs" ["_law_cell", "_law_plan_here", "_law_most"] (sp_signs K))
    (c_pressed : Cal P w K mg base (L2N.CX P w) 8 "pressed" ["plan", "signs"] (sp_pressed K)) (c_Reader___init__ : ICal P w K mg base (L2N.CX P w) (rdC K) 4 ["self", "plan", "many"] (sp_rinit K)) (g_Reader : mg "Reader" = some (.ref (He.ga K "Reader"))) (z_len : mg "len" = none) :
    FnOk P w K mg base CX0 9 f fd ["_law_script", "_law_k"] (sp_made8 K) := by
  refine F.ok sc__law_made (fun vs H Q E h => ?_) (fun cdv A outer s H vs Q E hr h => ?_)
  · obtain ⟨_, _, _, _, rfl, _⟩ := h
    rfl
  · obtain ⟨v, ns, k, M, rfl, hs, hL, q⟩ := h
    refine ⟨_, PSs.nox (pss_hold (ps_set (i := 2) sc__law_made.nd rfl (Or.inl rfl) (pe_f c__law_plan (hr.mono (by decide)) (pa_cons (pe_f c__law_cell_at (hr.mono (by decide)) (pa_cons (pv 0) (pa_cons (pv 1) pa_nil))) pa_nil)))
      (pss_hold (ps_set (i := 3) sc__law_made.nd rfl (Or.inl rfl) (pe_f c__law_signs (hr.mono (by decide)) (pa_cons (pe_f c__law_cell_at (hr.mono (by decide)) (pa_cons (pv 0) (pa_cons (pe_op op_add pe_int (pv 1)) pa_nil))) (pa_cons (pv 2) (pa_cons pe_int pa_nil)))))
      (pss_hold (ps_set (i := 4) sc__law_made.nd rfl (Or.inl rfl) (pe_callB (lenK (K := K) rfl) (by rfl) z_len (by decide +kernel) (pa_cons (pv 3) pa_nil)))
      (pss_hold (ps_if (pt_cmpR op_eq (pe_op op_mod (pe_f c__law_cell_at (hr.mono (by decide)) (pa_cons (pv 0) (pa_cons (pe_op op_add pe_int (pv 1)) pa_nil))) pe_int) pe_int (nomark _)) (pss_one (ps_set (i := 4) sc__law_made.nd rfl (Or.inl rfl) (pe_op op_mod (pe_op op_fdiv (pe_f c__law_cell_at (hr.mono (by decide)) (pa_cons (pv 0) (pa_cons (pe_op op_add pe_int (pv 1)) pa_nil))) pe_int) pe_int))) pss_nil)
      (pss_hold (ps_set (i := 5) sc__law_made.nd rfl (Or.inl rfl) (pe_mkX c_Reader___init__ (hr.mono (by decide)) g_Reader (fun σ => passNAt σ) (pa_cons (pv 2) (pa_cons (pv 4) pa_nil))))
      (pss_one (ps_ret (pe_disp (pps_cons pe_str (pv 5) (pps_cons pe_str (pv 2) (pps_cons pe_str (pv 4) (pps_cons pe_str (pe_fN c_pressed (hr.mono (by decide)) (pa_cons (pv 2) (pa_cons (pv 3) pa_nil))) (pps_cons pe_str (pe_lst pa_nil) (pps_cons pe_str (pe_lst pa_nil) (pps_cons pe_str (pe_lst pa_nil) pps_nil))))))) (by rfl) (by rfl) (fun z => by cases z) (by decide))))))))), ?_⟩
    refine asgD (evd_plan (ev_cell (k := k) (evd_var rfl hs) (ev_var rfl))) fun v2 H1 s1 d1 => ?_
    have pl := plan_ok (cellAt ns k)
    generalize planCs (cellAt ns k) = cs at d1 pl
    generalize planG (cellAt ns k) = g at d1 pl
    have l2 := pl.two
    have h1 := dp_same s1 _ _ hs
    refine hold (asgO (evo_signs (most := 8) (ev_cell (k := 2 + k) (evd_var rfl h1) (EvV.is (ev_op0 (g := fun i j => V.int (i + j)) ev_c (ev_var rfl)) (by rw [Int.natCast_add]; rfl))) (evd_var rfl d1) ev_c (by omega) (by omega)) fun p3 vs3 H2 np3 s2 e3 d3 => ?_)
    have tx : Text cs.length (signsOf (cellAt ns (2 + k)) cs.length 8) := signs_text (most := 8) (by omega) (by omega)
    have v3 := dpa_ints_eq d3
    subst v3
    clear d3
    have tx' : Text cs.length (signsOf (cellAt ns (2 + k)) cs.length ((8 : Nat) : Int)) := tx
    clear tx
    generalize signsOf (cellAt ns (2 + k)) cs.length ((8 : Nat) : Int) = ss at tx' e3
    have t3 := dp_list (K := K) e3
    refine hold (asgV (v := .int (ss.length : Int)) (EvV.is (ev_lenL (evd_var rfl t3)) (by rw [List.length_map])) fun H3 s3 => ?_)
    have h3 := dp_same (s2.trans s3) _ _ h1
    refine hold (if_asgD (K := K) (d := .int (cellAt ns (4 + k) / 4 % 9)) (b := decide (cellAt ns (4 + k) % 4 = 1)) (evb_test (ev_eqI (ev_op (g := fun i j => V.int (i % j)) (ev_cell (k := 4 + k) (evd_var rfl h3) (EvV.is (ev_op0 (g := fun i j => V.int (i + j)) ev_c (ev_var rfl)) (by rw [Int.natCast_add]; rfl))) ev_c (by decide)) ev_c)) (fun _ => EvV.int (ev_op (g := fun i j => V.int (i % j)) (ev_op (g := fun i j => V.int (i / j)) (ev_cell (k := 4 + k) (evd_var rfl h3) (EvV.is (ev_op0 (g := fun i j => V.int (i + j)) ev_c (ev_var rfl)) (by rw [Int.natCast_add]; rfl))) ev_c ⟨by decide, by decide⟩) ev_c (by decide))) rfl fun y H4 s4 hy1 hy0 => ?_)
    obtain ⟨m, rfl, hm⟩ : ∃ m : Nat, y = .int (m : Int) ∧ m ≤ 60 := by
      cases e : decide (cellAt ns (4 + k) % 4 = 1) with
      | true =>
        have n0 : 0 ≤ cellAt ns (4 + k) / 4 % 9 := Int.emod_nonneg _ (by decide)
        have n1 : cellAt ns (4 + k) / 4 % 9 < 9 := Int.emod_lt_of_pos _ (by decide)
        exact ⟨(cellAt ns (4 + k) / 4 % 9).toNat, by rw [dp_int (hy1 e)]; congr 1; omega, by omega⟩
      | false => exact ⟨ss.length, hy0 e, tx'.1⟩
    have d4 := dp_same ((s2.trans s3).trans s4) _ _ d1
    have t4 := dp_same (s3.trans s4) _ _ t3
    refine hold (asgT (rmakeOk (evd_var rfl d4) (ev_var rfl) pl hm fun p l H5 np nl s5 R => ?_))
    have d5 := dp_same s5 _ _ d4
    have t5 := dp_same s5 _ _ t4
    have s15 := (((s1.trans s2).trans s3).trans s4).trans s5
    have s14 := ((s1.trans s2).trans s3).trans s4
    refine hold (retT (dispT fun a na => ?_))
    -- the display
    have sa := same_upd na (o := HO.dK [])
    refine ⟨_, rfl, _, rfl, _, rfl, ?_⟩
    have d6 := dp_same sa _ _ d5
    have t6 := dp_same sa _ _ t5
    show tCall (sp_pressed K) [] E0 (tCons (tVar 2) (tCons (tVar 3) tNil)) _ _ _
    refine EvO.run (K := K) (evo_XO (eds_cons (evd_var rfl d6) (eds_cons (evd_var rfl t6) eds_nil)) rfl (pressed_yes pl tx')) fun r vr H6 nr s6 er dr => ?_
    have vre := dpa_ints_eq dr
    subst vre
    refine ⟨by decide, fun t nt => ⟨by decide, fun z nz => ⟨by decide, fun w nw => ?_⟩⟩⟩
    have st := same_upd nt (o := HO.lst [])
    have sz := same_upd nz (o := HO.lst [])
    have sw := same_upd nw (o := HO.lst [])
    have e6a := sw _ _ (sz _ _ (st _ _ (s6 _ _ (upd_same (H := H5) (a := a) (o := HO.dK [])))))
    refine ⟨e6a, oneKV p v2 (m : Int) r t z w, rfl, by show 7 ≤ 15; omega, ?_⟩
    rw [kv_merge]
    have nz6 : H6 z = none := st.free nz
    have nw6 : H6 w = none := st.free (sz.free nw)
    have fr : ∀ {x : Addr}, H6 x = none → H5 x = none := fun h => sa.free (s6.free h)
    have net : t ≠ a := fun e => by rw [e, s6 _ _ upd_same] at nt; cases nt
    have nez : z ≠ a := fun e => by rw [e, s6 _ _ upd_same] at nz6; cases nz6
    have new_ : w ≠ a := fun e => by rw [e, s6 _ _ upd_same] at nw6; cases nw6
    have nea : r ≠ a := fun e => by rw [e, upd_same] at nr; cases nr
    have H5p : ∃ o, H5 p = some o := by obtain ⟨dx, S, PL, I, e, _⟩ := R.at_; exact ⟨_, e⟩
    have H5l : ∃ o, H5 l = some o := ⟨_, R.sg⟩
    have ne5 : ∀ {x y : Addr}, H5 x = none → (∃ o, H5 y = some o) → x ≠ y := fun h ⟨o, e⟩ z => by rw [z, e] at h; cases h
    -- the heap as it is told
    have sEnd : Same H5 (upd (upd (upd (upd H6 t (.lst [])) z (.lst [])) w (.lst [])) a (.dK (oneKV p v2 (m : Int) r t z w))) := same_mut (sa.trans (((s6.trans st).trans sz).trans sw)) na
    have eA : upd (upd (upd (upd H6 t (.lst [])) z (.lst [])) w (.lst [])) a (.dK (oneKV p v2 (m : Int) r t z w)) a = some (.dK (oneKV p v2 (m : Int) r t z w)) := upd_same
    have eR : upd (upd (upd (upd H6 t (.lst [])) z (.lst [])) w (.lst [])) a (.dK (oneKV p v2 (m : Int) r t z w)) r = some (.lst ((figsIn (textS cs g ss)).map V.int)) := by
      rw [upd_ne nea]
      exact sw _ _ (sz _ _ (st _ _ er))
    have eT : upd (upd (upd (upd H6 t (.lst [])) z (.lst [])) w (.lst [])) a (.dK (oneKV p v2 (m : Int) r t z w)) t = some (.lst (([] : List Int).map V.int)) := by
      rw [upd_ne net]
      exact sw _ _ (sz _ _ upd_same)
    have eZ : upd (upd (upd (upd H6 t (.lst [])) z (.lst [])) w (.lst [])) a (.dK (oneKV p v2 (m : Int) r t z w)) z = some (.lst (([] : List Int).map V.int)) := by
      rw [upd_ne nez]
      exact sw _ _ upd_same
    have eW : upd (upd (upd (upd H6 t (.lst [])) z (.lst [])) w (.lst [])) a (.dK (oneKV p v2 (m : Int) r t z w)) w = some (.lst []) := by
      rw [upd_ne new_]
      exact upd_same
    have nra : ∀ x ∈ [a, p, l, w], r ≠ x ∧ t ≠ x ∧ z ≠ x := fun x hx => by
      have nr5 : H5 r = none := sa.free nr
      simp only [List.mem_cons, List.not_mem_nil, or_false] at hx
      rcases hx with rfl | rfl | rfl | rfl
      · exact ⟨nea, net, nez⟩
      · exact ⟨ne5 nr5 H5p, ne5 (fr nt) H5p, ne5 (fr nz6) H5p⟩
      · exact ⟨ne5 nr5 H5l, ne5 (fr nt) H5l, ne5 (fr nz6) H5l⟩
      · refine ⟨fun e => ?_, fun e => ?_, fun e => ?_⟩
        · rw [← e, er] at nw6
          cases nw6
        · have := sz.free nw
          rw [← e, upd_same] at this
          cases this
        · rw [← e, upd_same] at nw
          cases nw
    generalize upd (upd (upd (upd H6 t (.lst [])) z (.lst [])) w (.lst [])) a (.dK (oneKV p v2 (m : Int) r t z w)) = G at sEnd eA eR eT eZ eW
    have sG := s15.trans sEnd
    have nrM : r ∉ M ∧ t ∉ M ∧ z ∉ M := ⟨hL.new (s15.free (sa.free nr)), hL.new (s15.free (fr nt)), hL.new (s15.free (fr nz6))⟩
    have im : ∀ {x : Addr} {o : HO}, (∀ y ∈ [a, p, l, w], x ≠ y) → x ∉ M → G x = some o → imm (a :: p :: l :: w :: M) G x = some o := fun hx hM e => by
      rw [imm_at (fun hm => ?_)]
      · exact e
      · rcases List.mem_append.mp (show _ ∈ [a, p, l, w] ++ M from hm) with h | h
        · exact (hx _ h) rfl
        · exact hM h
    have ntM : NoTup (a :: p :: l :: w :: M) G := notup_of fun x hx => by
      obtain ⟨dx, S, PL, I, eP, _⟩ := R.at_
      simp only [List.mem_cons] at hx
      rcases hx with rfl | rfl | rfl | rfl | hx
      · exact ⟨_, eA, nt_dk _⟩
      · exact ⟨_, sEnd _ _ eP, nt_ins _ _ _⟩
      · exact ⟨_, sEnd _ _ R.sg, nt_lst _⟩
      · exact ⟨_, eW, nt_lst _⟩
      · obtain ⟨o, e, n⟩ := hL x hx
        exact ⟨o, sG _ _ e, n⟩
    have dPl : Dp K (imm (a :: p :: l :: w :: M) G) v2 (planD cs g) := dp_keep (M := a :: p :: l :: w :: M) (fun b o n e => by rw [imm_at n]; exact e) ntM (tupO_plan _ _) (dp_same sEnd _ _ d5)
    have hn : ∀ x ∈ [a, p, l, w], H x = none := fun x hx => by
      simp only [List.mem_cons, List.not_mem_nil, or_false] at hx
      rcases hx with rfl | rfl | rfl | rfl
      · exact s15.free na
      · exact s14.free np
      · exact s14.free nl
      · exact s15.free (fr nw6)
    refine q a p l w cs g m (figsIn (textS cs g ss)) G (hn a (by simp)) (hn p (by simp)) (hn l (by simp)) (hn w (by simp)) sG hn pl hm (figsIn_bits _) (by rw [figsIn_len]; have := fewK_le (textS_ok pl tx'); omega) (ne5 (fr nw6) H5l).symm ⟨fun x hx => ?_, ⟨v2, r, t, z, eA, dPl, im (fun y hy => (nra y hy).1) nrM.1 eR, im (fun y hy => (nra y hy).2.1) nrM.2.1 eT, ?_⟩, R.same sEnd, ⟨[], eW, .nil, Nat.le_refl _⟩⟩
    · simp only [List.mem_cons, List.not_mem_nil, or_false] at hx ⊢
      rcases hx with h | h | h | h <;> simp [h]
    · rw [sgn_nil pl]
      exact im (fun y hy => (nra y hy).2.2) nrM.2.2 eZ
end

section
variable {P : Program} {w : World} {K : PySem.W.Frag} {mg : Str → Option Value} {base : Heap} {f fW : Addr} {fd fdW : FuncData}
theorem ev_mixed8 {ta tb : TE} {σ : L2.St} {H : Hp} {c k : Int} (h : EvV ta σ H (.int c)) (h2 : EvV tb σ H (.int k)) (h0 : 0 ≤ k) (h1 : k < 5000) : EvV (tCall sp_mixed [] E0 (tCons ta (tCons tb tNil))) σ H (.int (mixed c k)) := fun H1 Q s1 q =>
  h H1 _ s1 fun H2 s2 => h2 H2 _ (s1.trans s2) fun H3 s3 => ⟨c, k, rfl, h0, h1, q H3 (s2.trans s3)⟩
abbrev s__law_lacks : Stmt := topS 59
theorem sc__law_lacks : FnScope ["_law_one", "_law_lacking"] ["_law_one"] (defScope s__law_lacks) := ⟨rfl, rfl, rfl, by decide +kernel, rfl, by decide +kernel, by decide +kernel⟩

def sp_lacks8 (K : PySem.W.Frag) : Sp := fun vs H Q _ => ∃ (M : List Addr) (a p l w : Addr) (cs row as : List Int) (g : Int) (m n : Nat), vs = [.ref a] ∧ One8 K (rdC K) M H a p l w cs g m row as n ∧ ∀ H', Same H H' → Q (.bl true) H'
theorem ok_lacks8 (F : FnP K "_law_lacks" s__law_lacks f fd) (T_Reader : ClsT K (rdC K) rdN) (c_Reader_lacking : MCal P w K mg base CX0 (rdC K) 1 "lacking" ["self"] (sp_lacking K)) (c__law_whole : Cal P w K mg base CX0 1 "_law_whole" ["_law_found"] (sp_whole K)) (z_len : mg "len" = none) :
    FnOk P w K mg base CX0 2 f fd ["_law_one"] (sp_lacks8 K) := by
  refine F.ok sc__law_lacks (fun vs H Q E h => ?_) (fun cdv A outer s H vs Q E hr h => ?_)
  · obtain ⟨_, _, _, _, _, _, _, _, _, _, _, rfl, _⟩ := h
    rfl
  · obtain ⟨M, a, p, l, w, cs, row, as, g, m, n, rfl, O, q⟩ := h
    refine ⟨_, PSs.nox (pss_hold (ps_set (i := 1) sc__law_lacks.nd rfl (Or.inl rfl) (pe_mX0 T_Reader.cl c_Reader_lacking (hr.mono (by decide)) (fun σ => pass0At σ) (pe_dget (hu_of hr) (pv 0) pe_str (fun _ _ => rfl))))
      (pss_one (ps_ret (pe_and (pe_f c__law_whole (hr.mono (by decide)) (pa_cons (pv 1) pa_nil)) (pe_one (pe_cmpR op_eq (pv 1) (pe_op op_sub (pe_dget (hu_of hr) (pv 0) pe_str (fun _ _ => rfl)) (pe_callB (lenK (K := K) rfl) (by rfl) z_len (by decide +kernel) (pa_cons (pe_dget (hu_of hr) (pv 0) pe_str (fun _ _ => rfl)) pa_nil))) (nomark _))))))), ?_⟩
    obtain ⟨v, r, t, s, e, d1, d2, d3, d4⟩ := O.dic
    have e4 := imm_same M H _ _ d4
    refine asgV (v := .int ((m : Int) - ((sgn cs g m as).length : Int))) (ev_lacking (ev_dget (ev_var rfl) e kv_reader) O.rd) fun H1 s1 => ?_
    refine hold (retV (v := .bl true) (EvV.is (ev_and (ev_whole (d := .int ((m : Int) - ((sgn cs g m as).length : Int))) (evd_var rfl (.int _))) fun _ => ev_eqI (ev_var rfl) (ev_op0 (g := fun i j => V.int (i - j)) (ev_dget (ev_var rfl) (s1 _ _ e) kv_many) (EvV.is (ev_lenL (ds := (sgn cs g m as).map PyData.int) ((ev_dget (ev_var rfl) (s1 _ _ e) kv_signs).dat fun J sJ => dp_list (sJ _ _ (s1 _ _ e4)))) (by rw [List.length_map])))) ?_) fun H2 s2 => q H2 (s1.trans s2))
    rw [decide_eq_true rfl]
    rfl
theorem ev_lacks8 {te : TE} {σ : L2.St} {H : Hp} {M : List Addr} {a p l w : Addr} {cs row as : List Int} {g : Int} {m n : Nat} (h : EvV te σ H (.ref a)) (O : One8 K (rdC K) M H a p l w cs g m row as n) : EvV (tCall (sp_lacks8 K) [] E0 (tCons te tNil)) σ H (.bl true) := fun H1 Q s1 k =>
  h H1 _ s1 fun H2 s2 => ⟨M, a, p, l, w, cs, row, as, g, m, n, rfl, O.same (s1.trans s2), fun H3 s3 => k H3 (s2.trans s3)⟩
abbrev s__law_seen : Stmt := topS 60
theorem sc__law_seen : FnScope ["_law_one", "_law_shown", "_law_is_turned", "_law_found", "_law_sign"] ["_law_one", "_law_shown", "_law_is_turned"] (defScope s__law_seen) := ⟨rfl, rfl, rfl, by decide +kernel, rfl, by decide +kernel, by decide +kernel⟩

def sp_seen8 (K : PySem.W.Frag) : Sp := fun vs H Q _ => ∃ (M : List Addr) (a p l w sh : Addr) (ys : List V) (b : Bool) (cs row as : List Int) (g : Int) (m n : Nat), vs = [.ref a, .ref sh, .bl b] ∧ One8 K (rdC K) M H a p l w cs g m row as n ∧ m ≤ 60 ∧ Plan cs g ∧ Live M H ∧ sh ∈ M ∧ sh ∉ [a, p, l, w] ∧ H sh = some (.lst ys) ∧ Pairs K (imm M H) ys ∧ ys.length ≤ 1000 ∧
  ∀ (q0 : Addr) H', Keep [sh] H H' → H' sh = some (.lst (ys ++ [.ref q0])) → Pairs K (imm M H') (ys ++ [.ref q0]) → Q (.bl true) H'
theorem ok_seen8 (F : FnP K "_law_seen" s__law_seen f fd) (T_Reader : ClsT K (rdC K) rdN) (c__law_lacks : Cal P w K mg base CX0 2 "_law_lacks" ["_law_one"] (sp_lacks8 K)) (c_Reader_told : MCal P w K mg base CX0 (rdC K) 1 "told" ["self"] (sp_rtold K)) (c__law_whole : Cal P w K mg base CX0 1 "_law_whole" ["_law_found"] (sp_whole K))
    (z_list : mg "list" = none) (z_isinstance : mg "isinstance" = none) (z_all : mg "all" = none) : FnOk P w K mg base CX0 3 f fd ["_law_one", "_law_shown", "_law_is_turned"] (sp_seen8 K) := by
  refine F.ok sc__law_seen (fun vs H Q E h => ?_) (fun cdv A outer s H vs Q E hr h => ?_)
  · obtain ⟨_, _, _, _, _, _, _, _, _, _, _, _, _, _, rfl, _⟩ := h
    rfl
  · obtain ⟨M, a, p, l, w, sh, ys, b, cs, row, as, g, m, n, rfl, O, hm, pl, L, hsM, hsN, hsh, hP, hyl, q⟩ := h
    refine ⟨_, PSs.nox (pss_hold (ps_if (PW.pt (pw_and (pt_val (pv 2)) (pw_and1 (pt_not (pt_val (pe_f c__law_lacks (hr.mono (by decide)) (pa_cons (pv 0) pa_nil))))))) (pss_one (ps_ret pe_bl)) pss_nil)
      (pss_hold (ps_set (i := 3) sc__law_seen.nd rfl (Or.inl rfl) (pe_mX0 T_Reader.cl c_Reader_told (hr.mono (by decide)) (fun σ => pass0At σ) (pe_dget (hu_of hr) (pv 0) pe_str (fun _ _ => rfl))))
      (pss_hold (ps_if (PW.pt (pw_or (pt_not (pt_val (pe_callB (isK (K := K) rfl) (by rfl) z_isinstance (by decide +kernel) (pa_cons (pv 3) (pa_cons (pe_bltn (v := .ty "list") (u := .type "list") (by rfl) z_list (by decide +kernel) rfl) pa_nil))))) (pw_or (pt_cmpR (op_neDK (K := K) rfl (hu2_of hr)) (pv 3) (pe_dget (hu_of hr) (pv 0) pe_str (fun _ _ => rfl)) (nomark _)) (pw_or1 (pt_not (pt_val (pe_callB (allK (K := K) rfl rfl) (by rfl) z_all (by decide +kernel) (pa_cons (pe_lc (own := [("_law_sign", 4)]) (g := gName 4) rfl sc__law_seen.nd (pi_listK (K := K) rfl (pv 3)) (blkOk_by (own := [("_law_sign", 4)]) (N := ["_law_one", "_law_shown", "_law_is_turned", "_law_found", "_law_sign"]) (sc := defScope s__law_seen) (by decide +kernel)) (fun _ _ _ _ _ => pg_name (i := 4) sc__law_seen.nd rfl (Or.inl rfl)) (fun _ _ _ _ _ => pts_nil) (fun _ _ _ _ _ => (pe_f c__law_whole (hr.mono (by decide)) (pa_cons (pv 4) pa_nil)))) pa_nil)))))))) (pss_one (ps_ret pe_bl)) pss_nil)
      (pss_hold (ps_expr (pe_bm PySem.F.plainAttrs_list PySem.F.slot_list_append PySem.F.type_list_append mt_append (pv 3) (pa_cons pe_int pa_nil)))
      (pss_hold (ps_expr (pe_bm PySem.F.plainAttrs_list PySem.F.slot_list_append PySem.F.type_list_append mt_append (pv 1) (pa_cons (pe_tup (pa_cons (pv 3) (pa_cons (pe_callTy (listK (K := K) rfl) (by rfl) z_list (by decide +kernel) (pa_cons (pv 3) pa_nil)) pa_nil))) pa_nil)))
      (pss_one (ps_ret (pe_or (pv 2) (pe_one (pe_f c__law_lacks (hr.mono (by decide)) (pa_cons (pv 0) pa_nil))))))))))), ?_⟩
    refine ifNo (EvB.is (evb_and (evb_b (ev_var rfl)) fun _ => evb_not (evb_b (ev_lacks8 (ev_var rfl) O))) (by cases b <;> rfl)) fun H1 s1 => ?_
    have O1 := O.same s1
    obtain ⟨v, r, t, s, e, d1, d2, d3, d4⟩ := O1.dic
    have e4 := imm_same M H1 _ _ d4
    have hql := (sgn_signs pl m as).1
    refine hold (asgO (evo_rtold (ev_dget (ev_var rfl) e kv_reader) O1.rd) fun p3 vs3 H2 np3 s2 e3 d3' => ?_)
    have v3 := dpa_ints_eq d3'
    subst v3
    clear d3'
    have F3 := dp_list (K := K) e3
    refine hold (ifNo (EvB.is (evb_or (evb_not (evb_b (ev_is (evd_var rfl F3) (by decide)))) fun _ => evb_or (evb_test (ev_neL (evd_var rfl F3) ((ev_dget (ev_var rfl) (s2 _ _ e) kv_signs).dat fun J sJ => dp_list (sJ _ _ (s2 _ _ e4))))) fun _ => evb_not (evb_b (ev_allWhole (evd_var rfl F3) (by omega) (fun _ => rfl)))) (by rw [decide_eq_true rfl]; rfl)) fun H3 s3 => ?_)
    have s13 := (s1.trans s2).trans s3
    have np0 : H p3 = none := s1.free np3
    have e33 := s3 _ _ e3
    refine hold (appV rfl e33 (by rw [List.length_map]; omega) ev_c fun H4 s4 => ?_)
    have e3L : upd H4 p3 (.lst ((sgn cs g m as).map V.int ++ [.int 9])) p3 = some (.lst ((sgn cs g m as ++ [9]).map V.int)) := by
      rw [upd_same, List.map_append]
      rfl
    have sL : Same H (upd H4 p3 (.lst ((sgn cs g m as).map V.int ++ [.int 9]))) := same_mut (s13.trans s4) np0
    generalize upd H4 p3 (.lst ((sgn cs g m as).map V.int ++ [.int 9])) = G at e3L sL
    refine hold (appPair (ev_var rfl) (sL _ _ hsh) (by omega) rfl e3L fun c q0 H5 nc nq hcq s5 ec eq => ?_)
    have sH5 := sL.trans s5
    have e5p := s5 _ _ e3L
    have nsh : ∀ {x : Addr}, H x = none → x ≠ sh := fun h z => by
      rw [z, hsh] at h
      cases h
    have kp : Keep [sh] H (upd H5 sh (.lst (ys ++ [.ref q0]))) := (Same.keep sH5).trans (keep_upd (by simp))
    have new : ∀ {x : Addr} {o : HO}, H x = none → H5 x = some o → imm M (upd H5 sh (.lst (ys ++ [.ref q0]))) x = some o := fun hx eo => by
      rw [imm_at (L.new hx), upd_ne (nsh hx)]
      exact eo
    have O6 : One8 K (rdC K) M (upd H5 sh (.lst (ys ++ [.ref q0]))) a p l w cs g m row as n := O.keep kp (fun x hx => by rw [List.mem_singleton.mp hx]; exact hsM) (notup_of fun x hx => by rw [List.mem_singleton.mp hx]; exact ⟨_, hsh, nt_lst _⟩) (fun x hx z => hsN (by rw [← List.mem_singleton.mp z]; exact hx))
    have P6 : Pairs K (imm M (upd H5 sh (.lst (ys ++ [.ref q0])))) (ys ++ [.ref q0]) := (hP.same (imm_keep kp (fun x hx => by rw [List.mem_singleton.mp hx]; exact hsM))).app (Pairs.one (new (sL.free nq) eq) (new np0 e5p) (new (sL.free nc) ec))
    have e6 : upd H5 sh (.lst (ys ++ [.ref q0])) sh = some (.lst (ys ++ [.ref q0])) := upd_same
    generalize upd H5 sh (.lst (ys ++ [.ref q0])) = J at kp O6 P6 e6
    refine hold (retV (v := .bl true) (EvV.is (ev_or (ev_var rfl) fun _ => ev_lacks8 (ev_var rfl) O6) (by cases b <;> rfl)) fun J1 r1 => ?_)
    exact q q0 J1 (kp.trans (Same.keep r1)) (r1 _ _ e6) (P6.same (imm_keep (Same.keep (M := []) r1) (fun _ z => nomatch z)))
abbrev s__law_take : Stmt := topS 58
theorem sc__law_take : FnScope ["_law_one", "_law_cell", "_law_size", "_law_at", "_law_figures", "_law_k", "_law_handed", "_law_found", "_law_e", "_law_due", "_law_sign"] ["_law_one", "_law_cell"] (defScope s__law_take) := ⟨rfl, rfl, rfl, by decide +kernel, rfl, by decide +kernel, by decide +kernel⟩

def sp_take8 (K : PySem.W.Frag) : Sp := fun vs H Q _ => ∃ (M : List Addr) (a p l w : Addr) (cs row as : List Int) (g c : Int) (m n : Nat), vs = [.ref a, .int c] ∧ One8 K (rdC K) M H a p l w cs g m row as n ∧ RdO cs g m as ∧ Live M H ∧ Bits row ∧ row.length ≤ 1500 ∧ as.length ≤ 3000 ∧ n ≤ 1000 ∧ (a ≠ p ∧ a ≠ l ∧ a ≠ w ∧ p ≠ l ∧ p ≠ w ∧ l ≠ w) ∧
  ∀ (as' : List Int) H', RdO cs g m as' → as'.length ≤ as.length + 6 → Keep [a, p, l, w] H H' → One8 K (rdC K) M H' a p l w cs g m row as' (n + 1) → Q (.bl true) H'
theorem notake8 {fs : List Int} (r : PyData) (h : r ∈ [PyData.none, .tuple (fs.map PyData.int), .list (fs.map PyData.int ++ [PyData.int 2]), .list ([PyData.bool false] ++ fs.map PyData.int), .str "0", .list [.list (fs.map PyData.int)]]) : isWholeList r 4000 0 1 = false := by
  simp only [List.mem_cons, List.not_mem_nil, or_false] at h
  rcases h with rfl | rfl | rfl | rfl | rfl | rfl
  · rfl
  · rfl
  · show (decide ((fs.map PyData.int ++ [PyData.int 2]).length ≤ 4000) && areWhole (fs.map PyData.int ++ [PyData.int 2]) 0 1) = false
    rw [areWhole_mem (d := .int 2) (by simp) (isWhole_out (by omega)), Bool.and_false]
  · show (decide (([PyData.bool false] ++ fs.map PyData.int).length ≤ 4000) && areWhole ([PyData.bool false] ++ fs.map PyData.int) 0 1) = false
    rw [areWhole_mem (d := .bool false) (by simp) rfl, Bool.and_false]
  · rfl
  · rfl
theorem ok_take8 (F : FnP K "_law_take" s__law_take f fd) (T : ErrTop K) (F__law_word : FnZ P w K mg base 1 fW fdW ["_law_e"] (sp_word K)) (g__law_word : mg "_law_word" = some (.ref fW)) (k__law_word : PySem.W.keepIn K (.ref fW) = true) (b__law_word : Binds K fdW ["_law_e"] []) (g_PressError : mg "PressError" = some (.ref (pressC K)))
    (T_Reader : ClsT K (rdC K) rdN) (c__law_mixed : Cal P w K mg base CX0 1 "_law_mixed" ["_law_cell", "_law_k"] sp_mixed) (c_Reader_take : MCal P w K mg base (L2N.CX P w) (rdC K) 8 "take" ["self", "figures"] (sp_rtake K)) (c__law_whole : Cal P w K mg base CX0 1 "_law_whole" ["_law_found"] (sp_whole K))
    (c__law_certain : Cal P w K mg base CX0 2 "_law_certain" ["_law_plan_here", "_law_many", "_law_figures"] (sp_lcertain K)) (z_list : mg "list" = none) (z_tuple : mg "tuple" = none) (z_len : mg "len" = none) (z_range : mg "range" = none) (z_isinstance : mg "isinstance" = none) (z_all : mg "all" = none) :
    FnOk P w K mg base CX0 9 f fd ["_law_one", "_law_cell"] (sp_take8 K) := by
  refine F.ok sc__law_take (fun vs H Q E h => ?_) (fun cdv A outer s H vs Q E hr h => ?_)
  · obtain ⟨_, _, _, _, _, _, _, _, _, _, _, _, rfl, _⟩ := h
    rfl
  · obtain ⟨M, a, p, l, w, cs, row, as, g, c, m, n, rfl, O, RO, L, rb, rl, al, hn, hne, q⟩ := h
    refine ⟨_, PSs.nox (pss_hold (ps_set (i := 2) sc__law_take.nd rfl (Or.inl rfl) (pe_op op_mod (pv 1) pe_int))
      (pss_hold (ps_set (i := 3) sc__law_take.nd rfl (Or.inl rfl) (pe_callB (lenK (K := K) rfl) (by rfl) z_len (by decide +kernel) (pa_cons (pe_dget (hu_of hr) (pv 0) pe_str (fun _ _ => rfl)) pa_nil)))
      (pss_hold (ps_set (i := 4) sc__law_take.nd rfl (Or.inl rfl) (pe_slice (sl_listK (K := K) rfl) (pe_dget (hu_of hr) (pv 0) pe_str (fun _ _ => rfl)) (po_some (pv 3)) (po_some (pe_op op_add (pv 3) (pv 2)))))
      (pss_hold (ps_if (pt_cmpR op_eq (pe_op op_mod (pe_op op_fdiv (pv 1) pe_int) pe_int) pe_int (nomark _)) (pss_one (ps_setLc (i := 4) (own := [("_law_k", 5)]) (g := gName 5) rfl sc__law_take.nd rfl rfl (sw_true rfl rfl rfl (by decide +kernel)) (pi_range1 rfl z_range (pa_cons (pv 2) pa_nil)) (blkOk_by (own := [("_law_k", 5)]) (N := ["_law_one", "_law_cell", "_law_size", "_law_at", "_law_figures", "_law_k", "_law_handed", "_law_found", "_law_e", "_law_due", "_law_sign"]) (sc := defScope s__law_take) (by decide +kernel)) (fun _ _ _ _ _ => pg_name (i := 5) sc__law_take.nd rfl (Or.inl rfl)) (fun _ _ _ _ _ => pts_nil) (fun _ _ _ _ _ => (pe_op op_mod (pe_op op_fdiv (pe_f c__law_mixed (hr.mono (by decide)) (pa_cons (pe_op op_fdiv (pv 1) pe_int) (pa_cons (pv 5) pa_nil))) pe_int) pe_int)))) pss_nil)
      (pss_hold (ps_set (i := 6) sc__law_take.nd rfl (Or.inl rfl) (pe_callTy (listK (K := K) rfl) (by rfl) z_list (by decide +kernel) (pa_cons (pv 4) pa_nil)))
      (pss_hold (ps_if (pt_cmpR op_eq (pe_op op_mod (pe_op op_fdiv (pv 1) pe_int) pe_int) pe_int (nomark _)) (pss_one (ps_set (i := 6) sc__law_take.nd rfl (Or.inl rfl) (pe_ix (ix_listK (K := K) rfl) (pe_lst (pa_cons pe_non (pa_cons (pe_callTy (tupleK (K := K) rfl) (by rfl) z_tuple (by decide +kernel) (pa_cons (pv 4) pa_nil)) (pa_cons (pe_op (op_catLK (K := K) rfl) (pv 4) (pe_lst (pa_cons pe_int pa_nil))) (pa_cons (pe_op (op_catLK (K := K) rfl) (pe_lst (pa_cons pe_bl pa_nil)) (pv 4)) (pa_cons pe_str (pa_cons (pe_lst (pa_cons (pv 4) pa_nil)) pa_nil))))))) (pe_op op_mod (pe_op op_fdiv (pv 1) pe_int) pe_int) (fun _ _ => rfl)))) pss_nil)
      (pss_hold (L2N.ps_try_as (i := 8) rfl rfl sc__law_take.nd rfl rfl ⟨rfl, by decide, Or.inl g_PressError⟩ takesN0
      (fun W pn xe tk _ => (pss_one (ps_set (i := 7) sc__law_take.nd rfl (Or.inl rfl) (pe_mX T_Reader.cl c_Reader_take (hr.mono (by decide)) (fun σ => L2N.passAt tk σ) (pe_dget (hu_of hr) (pv 0) pe_str (fun _ _ => rfl)) (pa_cons (pv 6) pa_nil)))))
      (fun a oe cls d pn hz hf => (pss_one (ps_ret (pe_and (pe_cmpR op_eq (pe_op op_mod (pe_op op_fdiv (pv 1) pe_int) pe_int) pe_int (nomark _)) (pe_one (pe_cmpR (op_eqDK (K := K) rfl (hu3_of hr rfl)) (pe_callZ F__law_word (roomH_of (hr.mono (by decide))) (hot_of hz hf) List.mem_cons_self g__law_word k__law_word b__law_word (word_imp hz hf) (pa_cons (pv 8) pa_nil)) (pe_lst (pa_cons pe_str pa_nil)) (nomark _))))))))
      (pss_hold (ps_if (PW.pt (pw_or (pt_cmpR op_eq (pe_op op_mod (pe_op op_fdiv (pv 1) pe_int) pe_int) pe_int (nomark _)) (pw_or1 (pt_cmpR (op_neDK (K := K) rfl (hu2_of hr)) (pv 6) (pv 4) (nomark _))))) (pss_one (ps_ret pe_bl)) pss_nil)
      (pss_hold (ps_expr (pe_bm PySem.F.plainAttrs_list PySem.F.slot_list_append PySem.F.type_list_append mt_append (pv 6) (pa_cons pe_int pa_nil)))
      (pss_hold (ps_dput (hu_of hr) (pv 0) pe_str (pe_op (op_catLK (K := K) rfl) (pe_dget (hu_of hr) (pv 0) pe_str (fun _ _ => rfl)) (pv 4)) rfl)
      (pss_hold (ps_set (i := 9) sc__law_take.nd rfl (Or.inl rfl) (pe_f c__law_certain (hr.mono (by decide)) (pa_cons (pe_dget (hu_of hr) (pv 0) pe_str (fun _ _ => rfl)) (pa_cons (pe_dget (hu_of hr) (pv 0) pe_str (fun _ _ => rfl)) (pa_cons (pe_dget (hu_of hr) (pv 0) pe_str (fun _ _ => rfl)) pa_nil)))))
      (pss_hold (ps_if (PW.pt (pw_or (pt_not (pt_val (pe_callB (isK (K := K) rfl) (by rfl) z_isinstance (by decide +kernel) (pa_cons (pv 7) (pa_cons (pe_bltn (v := .ty "list") (u := .type "list") (by rfl) z_list (by decide +kernel) rfl) pa_nil))))) (pw_or1 (pt_cmpR (op_neDK (K := K) rfl (hu2_of hr)) (pv 7) (pe_slice (sl_listK (K := K) rfl) (pv 9) (po_some (pe_callB (lenK (K := K) rfl) (by rfl) z_len (by decide +kernel) (pa_cons (pe_dget (hu_of hr) (pv 0) pe_str (fun _ _ => rfl)) pa_nil))) po_none) (nomark _))))) (pss_one (ps_ret pe_bl)) pss_nil)
      (pss_hold (ps_if (pt_not (pt_val (pe_callB (allK (K := K) rfl rfl) (by rfl) z_all (by decide +kernel) (pa_cons (pe_lc (own := [("_law_sign", 10)]) (g := gName 10) rfl sc__law_take.nd (pi_listK (K := K) rfl (pv 7)) (blkOk_by (own := [("_law_sign", 10)]) (N := ["_law_one", "_law_cell", "_law_size", "_law_at", "_law_figures", "_law_k", "_law_handed", "_law_found", "_law_e", "_law_due", "_law_sign"]) (sc := defScope s__law_take) (by decide +kernel)) (fun _ _ _ _ _ => pg_name (i := 10) sc__law_take.nd rfl (Or.inl rfl)) (fun _ _ _ _ _ => pts_nil) (fun _ _ _ _ _ => (pe_f c__law_whole (hr.mono (by decide)) (pa_cons (pv 10) pa_nil)))) pa_nil)))) (pss_one (ps_ret pe_bl)) pss_nil)
      (pss_hold (ps_expr (pe_bm PySem.F.plainAttrs_list PySem.F.slot_list_append PySem.F.type_list_append mt_append (pv 7) (pa_cons pe_int pa_nil)))
      (pss_hold (ps_expr (pe_bm PySem.F.plainAttrs_list PySem.F.slot_list_append PySem.F.type_list_append mt_append (pe_dget (hu_of hr) (pv 0) pe_str (fun _ _ => rfl)) (pa_cons (pe_tup (pa_cons (pv 7) (pa_cons (pe_callTy (listK (K := K) rfl) (by rfl) z_list (by decide +kernel) (pa_cons (pv 7) pa_nil)) pa_nil))) pa_nil)))
      (pss_hold (ps_dput (hu_of hr) (pv 0) pe_str (pv 9) rfl)
      (pss_one (ps_ret pe_bl)))))))))))))))))), ?_⟩
    obtain ⟨ap, a_l, aw, p_l, pw, l_w⟩ := hne
    obtain ⟨v, r, t, s, e, d1, d2, d3, d4⟩ := O.dic
    have e2 := imm_same M H _ _ d2
    have e3 := imm_same M H _ _ d3
    have e4 := imm_same M H _ _ d4
    have dP := dp_same (imm_same M H) _ _ d1
    have c70 : 0 ≤ c % 7 := Int.emod_nonneg _ (by decide)
    have c71 : c % 7 < 7 := Int.emod_lt_of_pos _ (by decide)
    have ek : (((c % 7).toNat : Nat) : Int) = c % 7 := by omega
    refine asgV (v := .int (c % 7)) (ev_op (g := fun i j => V.int (i % j)) (ev_var rfl) ev_c (by decide)) fun H1 s1 => ?_
    refine hold (asgV (v := .int (as.length : Int)) (EvV.is (ev_lenL (ds := as.map PyData.int) ((ev_dget (ev_var rfl) (s1 _ _ e) kv_taken).dat fun J sJ => dp_list (sJ _ _ (s1 _ _ e3)))) (by rw [List.length_map])) fun H2 s2 => ?_)
    have s12 := s1.trans s2
    refine hold (asgO (K := K) (ds := ((row.take ((as.length : Int) + c % 7).toNat).drop as.length).map PyData.int) (EvO.is (evo_sl2 (ds := row.map PyData.int) ((ev_dget (ev_var rfl) (s12 _ _ e) kv_row).dat fun J sJ => dp_list (sJ _ _ (s12 _ _ e2))) (ev_var rfl) (ev_op0 (g := fun i j => V.int (i + j)) (ev_var rfl) (ev_var rfl)) (by omega) (by omega)) (by rw [List.map_drop, List.map_take, Int.toNat_natCast])) fun p4 vs4 H3 np4 s3 e5 d5' => ?_)
    have v4 := dpa_ints_eq d5'
    subst v4
    clear d5'
    have fb0 : Bits ((row.take ((as.length : Int) + c % 7).toNat).drop as.length) := fun x hx => rb x (List.mem_of_mem_take (List.mem_of_mem_drop hx))
    have fl0 : ((row.take ((as.length : Int) + c % 7).toNat).drop as.length).length ≤ 6 := by rw [List.length_drop, List.length_take]; omega
    generalize ((row.take ((as.length : Int) + c % 7).toNat).drop as.length) = f0 at e5 fb0 fl0
    have s13 := s12.trans s3
    -- the figures
    refine hold (if_asgO (K := K) (s12.trans s3) (s12.free np4) (ms := (List.range (c % 7).toNat).map fun (k : Nat) => mixed (c / 28) (k : Int) / 7 % 2) (b := decide (c / 7 % 4 = 1)) (evb_test (ev_eqI (ev_op (g := fun i j => V.int (i % j)) (ev_op (g := fun i j => V.int (i / j)) (ev_var rfl) ev_c ⟨by decide, by decide⟩) ev_c (by decide)) ev_c)) (fun _ => EvO.is (evo_lcR (K := K) (m := (c % 7).toNat) (fun _ => true) (fun k => .int (mixed (c / 28) (k : Int) / 7 % 2)) (EvV.is (ev_var rfl) (by rw [ek])) (by omega) (fun n H' R _ _ k => yes_t k) (fun n J D R hn _ _ hD _ k => ?_)) (by rw [filter_yes, List.map_map]; rfl)) rfl e5 fun p5 H4 s4 np5 e6 => ?_)
    · exact (exv (ev_op (g := fun i j => V.int (i % j)) (ev_op (g := fun i j => V.int (i / j)) (ev_mixed8 (k := (n : Int)) (ev_op (g := fun i j => V.int (i / j)) (ev_var rfl) ev_c ⟨by decide, by decide⟩) (ev_var rfl) (by omega) (by omega)) ev_c ⟨by decide, by decide⟩) ev_c (by decide)) (fun _ _ => .int _)) J R (Same.refl _) k
    obtain ⟨fs, hfs, fb, fl⟩ : ∃ fs : List Int, (if decide (c / 7 % 4 = 1) = true then (List.range (c % 7).toNat).map (fun (k : Nat) => mixed (c / 28) (k : Int) / 7 % 2) else f0) = fs ∧ Bits fs ∧ fs.length ≤ 6 := by
      refine ⟨_, rfl, ?_, ?_⟩
      · split
        · intro x hx
          obtain ⟨k, _, rfl⟩ := List.mem_map.mp hx
          omega
        · exact fb0
      · split
        · rw [List.length_map, List.length_range]
          omega
        · exact fl0
    rw [hfs] at e6
    have s14 := s13.trans s4
    have F6 := dp_list (K := K) e6
    have hfm : (fs.map PyData.int).length = fs.length := List.length_map ..
    refine hold (asgO (evd_listOfL (evd_var rfl F6)) fun p6 vs6 H5 np6 s5 e7 d7 => ?_)
    have v6 := dpa_ints_eq d7
    subst v6
    clear d7
    have s15 := s14.trans s5
    have e65 := s5 _ _ e6
    have cB : ∀ {σ : L2.St} {J : Hp}, σ[1]? = some (some (.int c)) → EvV (tOp rEq (tOp (rI (fun x j => 0 < j) fun i j => V.int (i % j)) (tOp (rI CDiv fun i j => V.int (i / j)) (tVar 1) (tC (.int 28))) (tC (.int 6))) (tC (.int 1))) σ J (.bl (decide (c / 28 % 6 = 1))) := fun h => ev_eqI (ev_op (g := fun i j => V.int (i % j)) (ev_op (g := fun i j => V.int (i / j)) (ev_var h) ev_c ⟨by decide, by decide⟩) ev_c (by decide)) ev_c
    refine hold (ifB (b := decide (c / 28 % 6 = 1)) (evb_test (cB rfl)) (fun cc H6 s6 => ?_) (fun cc H6 s6 => ?_))
    · -- what is no list of figures
      have c28 := of_decide_eq_true cc
      obtain ⟨z, hz⟩ : ∃ r, [PyData.none, .tuple (fs.map PyData.int), .list (fs.map PyData.int ++ [PyData.int 2]), .list ([PyData.bool false] ++ fs.map PyData.int), .str "0", .list [.list (fs.map PyData.int)]][(c / 168 % 6).toNat]? = some r := ⟨_, List.getElem?_eq_getElem (by show _ < 6; omega)⟩
      have nz := notake8 z (List.mem_of_getElem? hz)
      have F7 := dp_list (K := K) (s6 _ _ e65)
      refine asgLastD (evd_ix (n := c / 168 % 6) (EvK.dat (EvO.k (evo_lst (eds_cons evd_non (eds_cons (evd_tupOf (evd_var rfl F7)) (eds_cons (EvK.dat (EvO.k (evo_catL (evd_var rfl F7) (EvK.dat (EvO.k (evo_lst (eds_cons evd_int eds_nil) (by show 1 ≤ 100000; omega)))) (by rw [hfm]; show _ + 1 ≤ 100000; omega)))) (eds_cons (EvK.dat (EvO.k (evo_catL (EvK.dat (EvO.k (evo_lst (eds_cons evd_bl eds_nil) (by show 1 ≤ 100000; omega)))) (evd_var rfl F7) (by rw [hfm]; show 1 + _ ≤ 100000; omega)))) (eds_cons evd_str (eds_cons (EvK.dat (EvO.k (evo_lst (eds_cons (evd_var rfl F7) eds_nil) (by show 1 ≤ 100000; omega)))) eds_nil)))))) (by show 6 ≤ 100000; omega)))) (ev_op (g := fun i j => V.int (i % j)) (ev_op (g := fun i j => V.int (i / j)) (ev_var rfl) ev_c ⟨by decide, by decide⟩) ev_c (by decide)) (Int.emod_nonneg _ (by decide)) hz) fun y H7 s7 dy => ?_
      have s17 := (s15.trans s6).trans s7
      refine hold (rtakeNo (ev_dget (ev_var rfl) (s17 _ _ e) kv_reader) (evd_var rfl dy) (O.rd.same s17) RO (fun gs ez gb gl => ?_) fun H8 s8 => ⟨true, T.exm .figures, fun _ ae na => ?_, fun z => nomatch z⟩)
      · subst ez
        rw [isBits_of gb (by omega)] at nz
        cases nz
      · refine retV (v := .bl true) (EvV.is (ev_and (cB rfl) fun _ => ev_eq (d := .list [.str (wordOf .figures)]) (e := .list [.str (wordOf .figures)]) (evd_word2 (ev_var rfl)) (EvK.dat (EvO.k (evo_lst (eds_cons evd_str eds_nil) (by show 1 ≤ 100000; omega)))) (wordSh _) (wordSh _)) ?_) fun H9 s9 => ?_
        · rw [cc, wordEq]
          rfl
        · have sA := (s17.trans s8).trans s9
          have O9 := O.same sA
          exact q as H9 RO (by omega) (Same.keep sA) ⟨O9.ms, O9.dic, O9.rd, by obtain ⟨xs, h1, h2, h3⟩ := O9.sh; exact ⟨xs, h1, h2, by omega⟩⟩
    · -- figures
      have s16 := s15.trans s6
      have nc28 := of_decide_eq_false cc
      have H7 := dp_list (K := K) (s6 _ _ e7)
      have hsum : as.length + fs.length ≤ 4000 := by omega
      refine hold (asgT (rtakeOk (ev_dget (ev_var rfl) (s16 _ _ e) kv_reader) (evd_var rfl H7) (O.rd.same s16) RO fb hsum fun p7 G np7 kG eG RG => ?_))
      obtain ⟨xs, ex, px, lx⟩ := O.sh
      have k0 : Keep [p, l] H G := (Same.keep s16).trans kG
      have hmem : ∀ {x : Addr}, x ≠ p → x ≠ l → x ∉ [p, l] := fun h1 h2 z => by
        simp only [List.mem_cons, List.not_mem_nil, or_false] at z
        rcases z with z | z
        · exact h1 z
        · exact h2 z
      have hlive : ∀ {x : Addr}, H x = none → x ≠ a ∧ x ≠ p ∧ x ≠ l ∧ x ≠ w := fun {x} h => by
        have : ∀ y ∈ [a, p, l, w], x ≠ y := fun y hy z => by
          obtain ⟨o, eo, _⟩ := O.live y hy
          rw [← z, h] at eo
          cases eo
        exact ⟨this a (by simp), this p (by simp), this l (by simp), this w (by simp)⟩
      have np6' : H p6 = none := s14.free np6
      have np7' : H p7 = none := s16.free np7
      have n5 := hlive np5
      have n6 := hlive np6'
      have n7 := hlive np7'
      have ne : ∀ {J : Hp} {x y : Addr}, J x = none → (∃ o, J y = some o) → x ≠ y := fun h ⟨o, eo⟩ z => by
        rw [← z, h] at eo
        cases eo
      have ne65 : p6 ≠ p5 := ne np6 ⟨_, e6⟩
      have ne76 : p7 ≠ p6 := ne np7 ⟨_, s6 _ _ e7⟩
      have ne75 : p7 ≠ p5 := ne np7 ⟨_, s6 _ _ e65⟩
      have B0 : B8 K (rdC K) H G a p l w (oneKV p v (m : Int) r t s w) xs cs g m (as ++ fs) := ⟨k0.mono (by simp), k0 a _ (hmem ap a_l) e, k0 w _ (hmem (Ne.symm pw) (Ne.symm l_w)) ex, RG⟩
      have g6 := kG p6 _ (hmem n6.2.1 n6.2.2.1) (s6 _ _ e7)
      have g5 := kG p5 _ (hmem n5.2.1 n5.2.2.1) (s6 _ _ e65)
      have hlv := O.live.nt
      have plan_ : ∀ {J : Hp}, Keep [a, p, l, w] H J → Dp K J v (planD cs g) := fun k => dp_keep k hlv (tupO_plan _ _) dP
      have hMs : ∀ {x : Addr} {o : HO}, imm M H x = some o → x ∉ [a, p, l, w] := fun eo z => imm_notin eo (O.ms _ z)
      have oldt : ∀ {J : Hp}, Keep [a, p, l, w] H J → J t = some (.lst (as.map V.int)) := fun k => k t _ (hMs d3) e3
      have olds : ∀ {J : Hp}, Keep [a, p, l, w] H J → J s = some (.lst ((sgn cs g m as).map V.int)) := fun k => k s _ (hMs d4) e4
      refine hold (ifNo (EvB.is (evb_or (evb_test (cB rfl)) fun _ => evb_test (ev_neL (evd_var rfl (dp_list g6)) (evd_var rfl (dp_list g5)))) (by rw [cc, decide_eq_true rfl]; rfl)) fun G1 r1 => ?_)
      -- handed.append(1)
      refine hold (appV rfl (r1 _ _ g6) (by rw [List.length_map]; omega) ev_c fun G2 r2 => ?_)
      have r12 := r1.trans r2
      have B2 := (B0.same r12).mut (o := .lst (fs.map V.int ++ [.int 1])) (r12 _ _ g6) np6' n6
      have g5' : upd G2 p6 (.lst (fs.map V.int ++ [.int 1])) p5 = some (.lst (fs.map V.int)) := by
        rw [upd_ne ne65.symm]
        exact r12 _ _ g5
      have g7' : upd G2 p6 (.lst (fs.map V.int ++ [.int 1])) p7 = some (.lst (((sgn cs g m (as ++ fs)).drop (sgn cs g m as).length).map V.int)) := by
        rw [upd_ne ne76]
        exact r12 _ _ eG
      generalize upd G2 p6 (.lst (fs.map V.int ++ [.int 1])) = L2' at B2 g5' g7'
      -- one['taken'] = one['taken'] + figures
      have ham : (as.map PyData.int).length = as.length := List.length_map ..
      refine hold (putDictO (K := K) (ds := (as ++ fs).map PyData.int) rfl B2.ea kv_len (EvO.is (evo_catL (ds := as.map PyData.int) (es := fs.map PyData.int) ((ev_dget (ev_var rfl) B2.ea kv_taken).dat fun J sJ => dp_list (sJ _ _ (oldt B2.kp))) (evd_var rfl (dp_list g5')) (by rw [ham, hfm]; omega)) (by rw [List.map_append])) fun t' vt L3 nt' r3 et dt => ?_)
      have vte := dpa_ints_eq dt
      subst vte
      clear dt
      rw [kv_ptaken]
      have B3 := (B2.same r3).dict (kv' := oneKV p v (m : Int) r t' s w) ⟨ap, a_l, aw⟩
      have nt0 : ∀ {J : Hp} {x : Addr}, J x = none → Keep [a, p, l, w] H J → (∀ y ∈ [a, p, l, w], ∃ o, J y = some o) → H x = none := fun {J x} hx k hy => by
        cases eo : H x with
        | none => rfl
        | some o =>
          by_cases z : x ∈ [a, p, l, w]
          · obtain ⟨o', e'⟩ := hy x z
            rw [hx] at e'
            cases e'
          · rw [k x o z eo] at hx
            cases hx
      have all : ∀ {J : Hp} {kv : List (Key × V)} {ys : List V} {bs : List Int}, B8 K (rdC K) H J a p l w kv ys cs g m bs → ∀ y ∈ [a, p, l, w], ∃ o, J y = some o := fun B y hy => by
        obtain ⟨dx, S, PL, I, eP, _⟩ := B.rd.at_
        simp only [List.mem_cons, List.not_mem_nil, or_false] at hy
        rcases hy with rfl | rfl | rfl | rfl
        · exact ⟨_, B.ea⟩
        · exact ⟨_, eP⟩
        · exact ⟨_, B.rd.sg⟩
        · exact ⟨_, B.ew⟩
      have ht0 : H t' = none := nt0 nt' B2.kp (all B2)
      have ntt := hlive ht0
      have et3 : upd L3 a (.dK (oneKV p v (m : Int) r t' s w)) t' = some (.lst ((as ++ fs).map V.int)) := by
        rw [upd_ne ntt.1]
        exact et
      have g73 : upd L3 a (.dK (oneKV p v (m : Int) r t' s w)) p7 = some (.lst (((sgn cs g m (as ++ fs)).drop (sgn cs g m as).length).map V.int)) := by
        rw [upd_ne n7.1]
        exact r3 _ _ g7'
      have ne7t : p7 ≠ t' := (ne nt' ⟨_, g7'⟩).symm
      generalize upd L3 a (.dK (oneKV p v (m : Int) r t' s w)) = L4 at B3 et3 g73
      -- due
      have fb2 := RO.bits.both fb
      have fl2 : (as ++ fs).length ≤ 4000 := by rw [List.length_append]; omega
      refine hold (asgO (evo_lcertain ((ev_dget (ev_var rfl) B3.ea kv_plan).dat fun J sJ => dp_same sJ _ _ (plan_ B3.kp)) (ev_dget (ev_var rfl) B3.ea kv_many) ((ev_dget (ev_var rfl) B3.ea kv_taken).dat fun J sJ => dp_list (sJ _ _ et3)) RO.pl RO.m60 fb2 fl2) fun p9 vs9 L5 np9 r5 e9 d9 => ?_)
      have v9 := dpa_ints_eq d9
      subst v9
      clear d9
      have B5 := B3.same r5
      have hp9 : H p9 = none := nt0 np9 B3.kp (all B3)
      have n9 := hlive hp9
      have ne97 : p9 ≠ p7 := ne np9 ⟨_, g73⟩
      have g75 := r5 _ _ g73
      have et5 := r5 _ _ et3
      have hql := (sgn_signs RO.pl m (as ++ fs)).1
      have hm60 := RO.m60
      refine hold (ifNo (EvB.is (evb_or (evb_not (evb_b (ev_is (evd_var rfl (dp_list g75)) (by decide)))) fun _ => evb_test (ev_neL (ms := (sgn cs g m (as ++ fs)).drop (sgn cs g m as).length) (evd_var rfl (dp_list g75)) (EvD.is (EvK.dat (EvO.k (evo_dropL2 (n := ((sgn cs g m as).length : Int)) (evd_var rfl (dp_list e9)) (EvV.is (ev_lenL (ds := (sgn cs g m as).map PyData.int) ((ev_dget (ev_var rfl) B5.ea kv_signs).dat fun J sJ => dp_list (sJ _ _ (olds B5.kp)))) (by rw [List.length_map])) (by omega)))) (by rw [List.map_drop, Int.toNat_natCast])))) (by rw [decide_eq_true rfl]; rfl)) fun L6 r6 => ?_)
      have g76 := r6 _ _ g75
      have hdl : ((sgn cs g m (as ++ fs)).drop (sgn cs g m as).length).length ≤ 60 := by rw [List.length_drop]; omega
      refine hold (ifNo (EvB.is (evb_not (evb_b (ev_allWhole (evd_var rfl (dp_list g76)) (by omega) (fun _ => rfl)))) rfl) fun L7 r7 => ?_)
      -- found.append(0)
      refine hold (appV rfl (r7 _ _ g76) (by rw [List.length_map]; omega) ev_c fun L8 r8 => ?_)
      have r68 := (r6.trans r7).trans r8
      have B8' := (B5.same r68).mut (o := .lst (((sgn cs g m (as ++ fs)).drop (sgn cs g m as).length).map V.int ++ [.int 0])) (r68 _ _ g75) np7' n7
      have g78 : upd L8 p7 (.lst (((sgn cs g m (as ++ fs)).drop (sgn cs g m as).length).map V.int ++ [.int 0])) p7 = some (.lst (((sgn cs g m (as ++ fs)).drop (sgn cs g m as).length ++ [0]).map V.int)) := by
        rw [upd_same, List.map_append]
        rfl
      have et8 : upd L8 p7 (.lst (((sgn cs g m (as ++ fs)).drop (sgn cs g m as).length).map V.int ++ [.int 0])) t' = some (.lst ((as ++ fs).map V.int)) := by
        rw [upd_ne ne7t.symm]
        exact r68 _ _ et5
      have e98 : upd L8 p7 (.lst (((sgn cs g m (as ++ fs)).drop (sgn cs g m as).length).map V.int ++ [.int 0])) p9 = some (.lst ((sgn cs g m (as ++ fs)).map V.int)) := by
        rw [upd_ne ne97]
        exact r68 _ _ e9
      generalize upd L8 p7 (.lst (((sgn cs g m (as ++ fs)).drop (sgn cs g m as).length).map V.int ++ [.int 0])) = L9 at B8' g78 et8 e98
      -- one['shown'].append((found, list(found)))
      refine hold (appPair (ev_dget (ev_var rfl) B8'.ea kv_shown) B8'.ew (by omega) rfl g78 fun cc' qq L10 ncc nqq hcq r10 ecc eqq => ?_)
      have hc0 : H cc' = none := nt0 ncc B8'.kp (all B8')
      have hq0 : H qq = none := nt0 nqq B8'.kp (all B8')
      have nc := hlive hc0
      have nq := hlive hq0
      have B10 := (B8'.same r10).show_ (xs' := xs ++ [.ref qq]) ⟨aw, pw, l_w⟩
      have hw : ∀ {x : Addr} {o : HO}, x ≠ w → L10 x = some o → upd L10 w (.lst (xs ++ [.ref qq])) x = some o := fun h eo => by
        rw [upd_ne h]
        exact eo
      have g7A := hw n7.2.2.2 (r10 _ _ g78)
      have etA := hw ntt.2.2.2 (r10 _ _ et8)
      have e9A := hw n9.2.2.2 (r10 _ _ e98)
      have ecA := hw nc.2.2.2 ecc
      have eqA := hw nq.2.2.2 eqq
      generalize upd L10 w (.lst (xs ++ [.ref qq])) = L11 at B10 g7A etA e9A ecA eqA
      -- one['signs'] = due
      refine hold (putDict (k := "signs") (v := .ref p9) rfl B10.ea kv_len (ev_var rfl) fun L12 r12' => ?_)
      rw [kv_psigns]
      have B12 := (B10.same r12').dict (kv' := oneKV p v (m : Int) r t' p9 w) ⟨ap, a_l, aw⟩
      have ha : ∀ {x : Addr} {o : HO}, x ≠ a → L11 x = some o → upd L12 a (.dK (oneKV p v (m : Int) r t' p9 w)) x = some o := fun h eo => by
        rw [upd_ne h]
        exact r12' _ _ eo
      have g7B := ha n7.1 g7A
      have etB := ha ntt.1 etA
      have e9B := ha n9.1 e9A
      have ecB := ha nc.1 ecA
      have eqB := ha nq.1 eqA
      generalize upd L12 a (.dK (oneKV p v (m : Int) r t' p9 w)) = L13 at B12 g7B etB e9B ecB eqB
      refine hold (retV ev_c fun L14 r14 => ?_)
      have B14 := B12.same r14
      have im : ∀ {x : Addr} {o : HO}, H x = none → L13 x = some o → imm M L14 x = some o := fun hx eo => by
        rw [imm_at (L.new hx)]
        exact r14 _ _ eo
      have si : Same (imm M H) (imm M L14) := imm_keep B14.kp O.ms
      refine q (as ++ fs) L14 ⟨RO.pl, RO.m60, fb2, fl2⟩ (by rw [List.length_append]; omega) B14.kp ⟨O.ms, ⟨v, r, t', p9, B14.ea, dp_same si _ _ d1, si _ _ d2, im ht0 etB, im hp9 e9B⟩, B14.rd, ⟨xs ++ [.ref qq], B14.ew, (px.same si).app (Pairs.one (im hq0 eqB) (im np7' g7B) (im hc0 ecB)), by rw [List.length_append, List.length_singleton]; omega⟩⟩
end

section
variable {P : Program} {w : World} {K : PySem.W.Frag} {mg : Str → Option Value} {base : Heap} {f fW : Addr} {fd fdW : FuncData}
theorem noplanRun {te tb : TE} {σ : L2.St} {H : Hp} {cs : List Int} {g c : Int} {Q : VK} (hp : EvD K te σ H (planD cs g)) (pl : Plan cs g) (hc : EvV tb σ H (.int c)) (k : ∀ v H1 r, Same H H1 → Dp K H1 v r → isPlan r = false → Q v H1) : tCall (sp_no_plan K) [] E0 (tCons te (tCons tb tNil)) σ H Q :=
  hp H _ (Same.refl H) fun v H2 s2 d2 => hc H2 _ s2 fun H3 s3 => ⟨v, cs, g, c, rfl, dp_same s3 _ _ d2, pl, fun v' H4 r s4 d4 hr => k v' H4 r ((s2.trans s3).trans s4) d4 hr⟩
theorem forSplit {te : TE} {g : TG} {tw u : TS} {D : Ends} {σ : L2.St} {H : Hp} (h : te σ H fun x H1 => tSeq (tFor (iList K (tC x)) g tw) u D σ H1) : tSeq (tFor (iList K te) g tw) u D σ H := h
theorem lstT {ta : TA} {σ : L2.St} {H : Hp} {Q : VK} (h : ta σ H fun vs H1 => vs.length ≤ sizeLine ∧ ∀ p, H1 p = none → Q (.ref p) (upd H1 p (.lst vs))) : tLst ta σ H Q := h
theorem consT {te : TE} {ta : TA} {σ : L2.St} {H : Hp} {Q : List V → Hp → Prop} (h : te σ H fun x H1 => ta σ H1 fun xs H2 => Q (x :: xs) H2) : tCons te ta σ H Q := h
theorem tupT {ta : TA} {σ : L2.St} {H : Hp} {Q : VK} (h : ta σ H fun vs H1 => vs.length ≤ sizeLine ∧ ∀ p, H1 p = none → Q (.ref p) (upd H1 p (.tup vs))) : tTup ta σ H Q := h
abbrev s__law_refused : Stmt := topS 55
theorem sc__law_refused : FnScope ["_law_plan_here", "_law_cell", "_law_no_count", "_law_words", "_law_one", "_law_many", "_law_e"] ["_law_plan_here", "_law_cell"] (defScope s__law_refused) := ⟨rfl, rfl, rfl, by decide +kernel, rfl, by decide +kernel, by decide +kernel⟩

def sp_refused8 (K : PySem.W.Frag) : Sp := fun vs H Q _ => ∃ (v : V) (cs : List Int) (g c : Int), vs = [v, .int c] ∧ Dp K H v (planD cs g) ∧ Plan cs g ∧ ∀ H', Same H H' → Q (.bl true) H'
theorem nomany8 {far : Int} (hf : 0 ≤ far) (r : PyData) (h : r ∈ [PyData.int (-1), .int 61, .bool true, .none, .str "3", .int (61 + far)]) : isWhole r 0 60 = false := by
  simp only [List.mem_cons, List.not_mem_nil, or_false] at h
  rcases h with rfl | rfl | rfl | rfl | rfl | rfl
  · exact isWhole_out (by omega)
  · exact isWhole_out (by omega)
  · rfl
  · rfl
  · rfl
  · exact isWhole_out (by omega)
theorem ok_refused8 (F : FnP K "_law_refused" s__law_refused f fd) (T : ErrTop K) (F__law_word : FnZ P w K mg base 1 fW fdW ["_law_e"] (sp_word K)) (g__law_word : mg "_law_word" = some (.ref fW)) (k__law_word : PySem.W.keepIn K (.ref fW) = true) (b__law_word : Binds K fdW ["_law_e"] []) (g_PressError : mg "PressError" = some (.ref (pressC K)))
    (c__law_no_plan : Cal P w K mg base CX0 1 "_law_no_plan" ["_law_plan_here", "_law_cell"] (sp_no_plan K)) (c_Reader___init__ : ICal P w K mg base (L2N.CX P w) (rdC K) 4 ["self", "plan", "many"] (sp_rinit K)) (g_Reader : mg "Reader" = some (.ref (He.ga K "Reader"))) :
    FnOk P w K mg base CX0 6 f fd ["_law_plan_here", "_law_cell"] (sp_refused8 K) := by
  refine F.ok sc__law_refused (fun vs H Q E h => ?_) (fun cdv A outer s H vs Q E hr h => ?_)
  · obtain ⟨_, _, _, _, rfl, _⟩ := h
    rfl
  · obtain ⟨v, cs, g, c, rfl, hd, pl, q⟩ := h
    refine ⟨_, PSs.nox (pss_hold (ps_set (i := 2) sc__law_refused.nd rfl (Or.inl rfl) (pe_ix (ix_listK (K := K) rfl) (pe_lst (pa_cons (pe_un un_neg pe_int) (pa_cons pe_int (pa_cons pe_bl (pa_cons pe_non (pa_cons pe_str (pa_cons (pe_op op_add pe_int (pe_op op_mod (pe_op op_fdiv (pv 1) pe_int) (pe_op op_pow pe_int pe_int))) pa_nil))))))) (pe_op op_mod (pv 1) pe_int) (fun _ _ => rfl)))
      (pss_hold (ps_set (i := 3) sc__law_refused.nd rfl (Or.inl rfl) (pe_lst pa_nil))
      (pss_hold (ps_for PassesOwn.never rfl (pi_listK (K := K) rfl (pe_lst (pa_cons (pe_tup (pa_cons (pe_f c__law_no_plan (hr.mono (by decide)) (pa_cons (pv 0) (pa_cons (pe_op op_fdiv (pv 1) pe_int) pa_nil))) (pa_cons (pv 2) pa_nil))) (pa_cons (pe_tup (pa_cons (pv 0) (pa_cons (pv 2) pa_nil))) pa_nil)))) (pg_tupK (K := K) (n := 2) rfl rfl (pgs_cons (pg_name (i := 4) sc__law_refused.nd rfl (.inl rfl)) (pgs_cons (pg_name (i := 5) sc__law_refused.nd rfl (.inl rfl)) pgs_nil))) (pss_one (L2N.ps_try_as (i := 6) rfl rfl sc__law_refused.nd rfl rfl ⟨rfl, by decide, Or.inl g_PressError⟩ takesN0
      (fun W pn xe tk _ => (pss_one (ps_expr (pe_mkX c_Reader___init__ (hr.mono (by decide)) g_Reader (fun σ => L2N.passAt tk σ) (pa_cons (pv 4) (pa_cons (pv 5) pa_nil))))))
      (fun a oe cls d pn hz hf => (pss_one (ps_set (i := 3) sc__law_refused.nd rfl (Or.inl rfl) (pe_op (op_catLK (K := K) rfl) (pv 3) (pe_callZ F__law_word (roomH_of (hr.mono (by decide))) (hot_of hz hf) List.mem_cons_self g__law_word k__law_word b__law_word (word_imp hz hf) (pa_cons (pv 6) pa_nil)))))))))
      (pss_one (ps_ret (pe_cmpR (op_eqDK (K := K) rfl (hu2_of hr)) (pv 3) (pe_lst (pa_cons pe_str (pa_cons pe_str pa_nil))) (nomark _))))))), ?_⟩
    have hfar : 0 ≤ c / 6 % 10 ^ Int.toNat 20 := Int.emod_nonneg _ (by decide)
    obtain ⟨z2, hz2⟩ : ∃ r, [PyData.int (-1), .int 61, .bool true, .none, .str "3", .int (61 + c / 6 % 10 ^ Int.toNat 20)][(c % 6).toNat]? = some r := ⟨_, List.getElem?_eq_getElem (by show _ < 6; omega)⟩
    have nz2 := nomany8 hfar z2 (List.mem_of_getElem? hz2)
    refine asgD (evd_ix (n := c % 6) (EvK.dat (EvO.k (evo_lst (eds_cons (EvV.int (ev_neg ev_c)) (eds_cons evd_int (eds_cons evd_bl (eds_cons evd_non (eds_cons evd_str (eds_cons (EvV.int (ev_op0 (g := fun i j => V.int (i + j)) ev_c (ev_op (g := fun i j => V.int (i % j)) (ev_op (g := fun i j => V.int (i / j)) (ev_var rfl) ev_c ⟨by decide, by decide⟩) (ev_op ev_c ev_c ⟨by decide, by decide, by decide⟩) (by decide)))) eds_nil)))))) (by show 6 ≤ 100000; omega)))) (ev_op (g := fun i j => V.int (i % j)) (ev_var rfl) ev_c (by decide)) (Int.emod_nonneg _ (by decide)) hz2) fun w2 H1 s1 b2 => ?_
    refine hold (asgO (K := K) (ds := []) (evo_lst eds_nil (by show 0 ≤ 100000; omega)) fun p3 vs3 H2 np3 s2 e3 d3 => ?_)
    cases d3
    have dP2 := dp_same (s1.trans s2) _ _ hd
    have b22 := dp_same s2 _ _ b2
    refine hold (forSplit (lstT (consT (tupT (consT (noplanRun (evd_var rfl dP2) pl (ev_op (g := fun i j => V.int (i / j)) (ev_var rfl) ev_c ⟨by decide, by decide⟩) fun vb H3 rb s3 hb nb => ?_))))))
    refine ⟨_, rfl, (by show 2 ≤ sizeLine; decide), fun t1 nt1 => ⟨_, rfl, _, rfl, (by show 2 ≤ sizeLine; decide), fun t2 nt2 => ⟨(by show 2 ≤ sizeLine; decide), fun pl_ npl => ?_⟩⟩⟩
    have u1 := same_upd nt1 (o := HO.tup [vb, w2])
    have u2 := same_upd nt2 (o := HO.tup [v, w2])
    have u3 := same_upd npl (o := HO.lst [.ref t1, .ref t2])
    have s23 := s2.trans s3
    have uA := (u1.trans u2).trans u3
    have hdata : Dp K (upd (upd (upd H3 t1 (.tup [vb, w2])) t2 (.tup [v, w2])) pl_ (.lst [.ref t1, .ref t2])) (.ref pl_) (.list ([(rb, z2), (planD cs g, z2)].map fun q => .tuple [q.1, q.2])) :=
      .lst (.inl (.inl upd_same)) (.cons (.tup (.inl (.inl (u3 _ _ (u2 _ _ upd_same)))) (.cons (dp_same uA _ _ hb) (.cons (dp_same ((s23).trans uA) _ _ b2) .nil))) (.cons (.tup (.inl (.inl (u3 _ _ upd_same))) (.cons (dp_same (s3.trans uA) _ _ dP2) (.cons (dp_same (s23.trans uA) _ _ b2) .nil))) .nil))
    have e3L := uA _ _ (s3 _ _ e3)
    have sAll : Same H (upd (upd (upd H3 t1 (.tup [vb, w2])) t2 (.tup [v, w2])) pl_ (.lst [.ref t1, .ref t2])) := ((s1.trans s2).trans s3).trans uA
    generalize upd (upd (upd H3 t1 (.tup [vb, w2])) t2 (.tup [v, w2])) pl_ (.lst [.ref t1, .ref t2]) = L at hdata e3L sAll
    refine forDLP (K := K) (ds := [(rb, z2), (planD cs g, z2)]) (ev_c.dat fun J sJ => dp_same sJ _ _ hdata) (fun k σ' J => ∃ w3 y4 y5, σ' = [some v, some (.int c), some w2, some w3, y4, y5, none] ∧ Same L J ∧ Dp K J w3 (.list (([Err.plan, .count].take k).map fun e => .str (wordOf e)))) (fun J r => ⟨_, _, _, rfl, r, .lst (.inl (.inl (r _ _ e3L))) .nil⟩) ?_ ?_
    · rintro k d1 d2 x y σ' J J1 hk r1 r2 hx hy ⟨w3, y4, y5, rfl, sJ, h3⟩
      obtain ⟨e, he, hw⟩ : ∃ e : Err, ((isPlan d1 = false ∧ e = .plan) ∨ (isPlan d1 = true ∧ isWhole d2 0 60 = false ∧ e = .count)) ∧ [Err.plan, .count][k]? = some e := by
        match k, hk with
        | 0, hk => cases (Option.some.inj hk); exact ⟨.plan, .inl ⟨nb, rfl⟩, rfl⟩
        | 1, hk => cases (Option.some.inj hk); exact ⟨.count, .inr ⟨isPlan_of pl, nz2, rfl⟩, rfl⟩
        | n + 2, hk => simp at hk
      refine rmakeNo (evd_var rfl hx) (evd_var rfl hy) e he fun J2 r3 => ⟨true, T.exm e, fun _ ae na => ?_, fun z => nomatch z⟩
      have ke : (([Err.plan, .count].take (k + 1)).map fun e => PyData.str (wordOf e)) = (([Err.plan, .count].take k).map fun e => PyData.str (wordOf e)) ++ [.str (wordOf e)] := by
        rw [take_snoc hw, List.map_append]
        rfl
      refine asgLastO (K := K) (ds := ([Err.plan, .count].take (k + 1)).map fun e => PyData.str (wordOf e)) (EvO.is (evo_catL (evd_var rfl (dp_same r3 _ _ h3)) (evd_word2 (e := e) (ev_var rfl)) ?_) ke.symm) fun p vs J3 np r4 e4 d4 => ?_
      · rw [List.length_map, List.length_take]
        have : ([Err.plan, .count] : List Err).length = 2 := rfl
        show _ + 1 ≤ 100000
        omega
      · exact ⟨(r2.trans r3).trans r4, _, _, _, rfl, (sJ.trans r3).trans r4, .lst (.inl (.inl e4)) d4⟩
    · rintro σ' J ⟨w3, y4, y5, rfl, sJ, h3⟩
      have w2Sh : ShN 2 (.list [.str (wordOf .plan), .str (wordOf .count)]) := sh_lst fun d hd => by
        simp only [List.mem_cons, List.not_mem_nil, or_false] at hd
        rcases hd with rfl | rfl <;> exact ⟨by decide +kernel, by simp only [PyData.depth]; exact Nat.zero_le _⟩
      exact hold (retV (v := .bl true) (EvV.is (ev_eq (d := .list [.str (wordOf .plan), .str (wordOf .count)]) (e := .list [.str (wordOf .plan), .str (wordOf .count)]) (evd_var rfl h3) (EvK.dat (EvO.k (evo_lst (eds_cons evd_str (eds_cons evd_str eds_nil)) (by show 2 ≤ 100000; omega)))) (w2Sh.ok (by omega)) (w2Sh.ok (by omega))) (by rw [eqv_self w2Sh])) fun J1 r1 => q J1 ((sAll.trans sJ).trans r1))
theorem ev_refused8 {ta tb : TE} {σ : L2.St} {H : Hp} {cs : List Int} {g c : Int} (h : EvD K ta σ H (planD cs g)) (h2 : EvV tb σ H (.int c)) (pl : Plan cs g) : EvV (tCall (sp_refused8 K) [] E0 (tCons ta (tCons tb tNil))) σ H (.bl true) :=
  evv_call (eds_cons h (eds_cons h2.int eds_nil)) fun vs H1 Q s1 d1 k => by
    obtain ⟨v, u, rfl, a1, a2⟩ := dpaN2 d1
    cases dp_int a2
    exact ⟨_, cs, g, c, rfl, a1, pl, k⟩
theorem ifTake {r : R2} {te tb : TE} {tt2 : TT} {a b : TS} {D : Ends} {σ : L2.St} {H : Hp} (h : te σ H fun x H1 => tIfS (tOr (tTest (tOp r (tC x) tb)) tt2) a b D σ H1) : tIfS (tOr (tTest (tOp r te tb)) tt2) a b D σ H := h
theorem ifTake1 {r : R2} {te tb : TE} {a b : TS} {D : Ends} {σ : L2.St} {H : Hp} (h : te σ H fun x H1 => tIfS (tTest (tOp r (tC x) tb)) a b D σ H1) : tIfS (tTest (tOp r te tb)) a b D σ H := h
theorem ifOrF {tt tt2 : TT} {a b : TS} {D : Ends} {σ : L2.St} {H : Hp} (h : EvB tt σ H false) (k : ∀ H1, Same H H1 → tIfS tt2 a b D σ H1) : tIfS (tOr tt tt2) a b D σ H := h H _ (Same.refl H) fun H1 s => iteF (k H1 s)
theorem ifF {tt : TT} {a : TS} {D : Ends} {σ : L2.St} {H : Hp} (h : EvB tt σ H false) (k : ∀ H1, Same H H1 → D.nx σ H1) : tIfS tt a tNext D σ H := h H _ (Same.refl H) fun H1 s => iteF (k H1 s)
theorem ifFs {tt : TT} {a u : TS} {D : Ends} {σ : L2.St} {H : Hp} (h : EvB tt σ H false) (k : ∀ H1, Same H H1 → u D σ H1) : tIfS tt a tNext { D with nx := u D } σ H := h H _ (Same.refl H) fun H1 s => iteF (k H1 s)
theorem seqT {a u : TS} {D : Ends} {σ : L2.St} {H : Hp} (h : a { D with nx := u D } σ H) : tSeq a u D σ H := h
abbrev s__law_edge : Stmt := topS 56
theorem sc__law_edge : FnScope ["_law_plan_here", "_law_figure", "_law_reader", "_law_many", "_law_e"] ["_law_plan_here", "_law_figure"] (defScope s__law_edge) := ⟨rfl, rfl, rfl, by decide +kernel, rfl, by decide +kernel, by decide +kernel⟩

def sp_edge8 (K : PySem.W.Frag) : Sp := fun vs H Q _ => ∃ (v : V) (cs : List Int) (g c : Int), vs = [v, .int c] ∧ Dp K H v (planD cs g) ∧ Plan cs g ∧ 0 ≤ c ∧ c ≤ 1 ∧ ∀ H', Same H H' → Q (.bl true) H'
theorem sgn0 (cs : List Int) (g : Int) (as : List Int) : sgn cs g 0 as = [] := rfl
theorem ok_edge8 (F : FnP K "_law_edge" s__law_edge f fd) (T : ErrTop K) (F__law_word : FnZ P w K mg base 1 fW fdW ["_law_e"] (sp_word K)) (g__law_word : mg "_law_word" = some (.ref fW)) (k__law_word : PySem.W.keepIn K (.ref fW) = true) (b__law_word : Binds K fdW ["_law_e"] []) (g_PressError : mg "PressError" = some (.ref (pressC K)))
    (T_Reader : ClsT K (rdC K) rdN) (c_Reader___init__ : ICal P w K mg base (L2N.CX P w) (rdC K) 4 ["self", "plan", "many"] (sp_rinit K)) (g_Reader : mg "Reader" = some (.ref (He.ga K "Reader"))) (c_Reader_take : MCal P w K mg base (L2N.CX P w) (rdC K) 8 "take" ["self", "figures"] (sp_rtake K))
    (c_Reader_lacking : MCal P w K mg base CX0 (rdC K) 1 "lacking" ["self"] (sp_lacking K)) (c_Reader_told : MCal P w K mg base CX0 (rdC K) 1 "told" ["self"] (sp_rtold K)) : FnOk P w K mg base CX0 9 f fd ["_law_plan_here", "_law_figure"] (sp_edge8 K) := by
  refine F.ok sc__law_edge (fun vs H Q E h => ?_) (fun cdv A outer s H vs Q E hr h => ?_)
  · obtain ⟨_, _, _, _, rfl, _⟩ := h
    rfl
  · obtain ⟨v, cs, g, c, rfl, hd, pl, c0, c1, q⟩ := h
    refine ⟨_, PSs.nox (pss_hold (ps_set (i := 2) sc__law_edge.nd rfl (Or.inl rfl) (pe_mkX c_Reader___init__ (hr.mono (by decide)) g_Reader (fun σ => passNAt σ) (pa_cons (pv 0) (pa_cons pe_int pa_nil))))
      (pss_hold (ps_if (PW.pt (pw_or (pt_cmpR (op_neDK (K := K) rfl (hu2_of hr)) (pe_mX T_Reader.cl c_Reader_take (hr.mono (by decide)) (fun σ => passNAt σ) (pv 2) (pa_cons (pe_op op_rep (pe_lst (pa_cons (pv 1) pa_nil)) pe_int) pa_nil)) (pe_lst pa_nil) (nomark _)) (pw_or1 (pt_cmpR (op_neDK (K := K) rfl (hu2_of hr)) (pe_mX T_Reader.cl c_Reader_take (hr.mono (by decide)) (fun σ => passNAt σ) (pv 2) (pa_cons (pe_op op_rep (pe_lst (pa_cons (pe_op op_sub pe_int (pv 1)) pa_nil)) pe_int) pa_nil)) (pe_lst pa_nil) (nomark _))))) (pss_one (ps_ret pe_bl)) pss_nil)
      (pss_hold (ps_for PassesOwn.never rfl (pi_tupK (K := K) rfl (pe_tup (pa_cons pe_int (pa_cons pe_int (pa_cons pe_int (pa_cons pe_int pa_nil)))))) (pg_name (i := 3) sc__law_edge.nd rfl (.inl rfl)) (pss_one (L2N.ps_try_as (i := 4) rfl rfl sc__law_edge.nd rfl rfl ⟨rfl, by decide, Or.inl g_PressError⟩ takesN0
      (fun W pn xe tk _ => (pss_one (ps_if (PW.pt (pw_or (pt_cmpR (op_neDK (K := K) rfl (hu2_of hr)) (pe_mX T_Reader.cl c_Reader_take (hr.mono (by decide)) (fun σ => L2N.passAt tk σ) (pv 2) (pa_cons (pe_op op_rep (pe_lst (pa_cons (pv 1) pa_nil)) (pv 3)) pa_nil)) (pe_lst pa_nil) (nomark _)) (pw_or1 (pt_cmpR op_eq (pe_op op_mod (pv 3) pe_int) pe_int (nomark _))))) (pss_one (ps_ret pe_bl)) pss_nil)))
      (fun a oe cls d pn hz hf => (pss_one (ps_if (PW.pt (pw_or (pt_cmpR op_ne (pe_op op_mod (pv 3) pe_int) pe_int (nomark _)) (pw_or1 (pt_cmpR (op_neDK (K := K) rfl (hu3_of hr rfl)) (pe_callZ F__law_word (roomH_of (hr.mono (by decide))) (hot_of hz hf) List.mem_cons_self g__law_word k__law_word b__law_word (word_imp hz hf) (pa_cons (pv 4) pa_nil)) (pe_lst (pa_cons pe_str pa_nil)) (nomark _))))) (pss_one (ps_ret pe_bl)) pss_nil))))))
      (pss_one (ps_ret (pe_and (pe_cmpR op_eq (pe_mX0 T_Reader.cl c_Reader_lacking (hr.mono (by decide)) (fun σ => pass0At σ) (pv 2)) pe_int (nomark _)) (pe_one (pe_cmpR (op_eqDK (K := K) rfl (hu2_of hr)) (pe_mX0 T_Reader.cl c_Reader_told (hr.mono (by decide)) (fun σ => pass0At σ) (pv 2)) (pe_lst pa_nil) (nomark _))))))))), ?_⟩
    refine asgT (rmakeOk (m := 0) (evd_var rfl hd) ev_c pl (by omega) fun p l H1 np nl s1 R1 => ?_)
    have emp : ∀ {σ : L2.St} {G : Hp}, EvD K (tLst tNil) σ G (.list (([] : List Int).map PyData.int)) := fun {_ _} => EvK.dat (EvO.k (evo_lst eds_nil (by show 0 ≤ 100000; omega)))
    have rep : ∀ {σ : L2.St} {G : Hp} {te tn : TE} (x : Int) (n : Nat), EvV te σ G (.int x) → EvV tn σ G (.int (n : Int)) → n ≤ 100000 → EvD K (tOp rRep (tLst (tCons te tNil)) tn) σ G (.list ((List.replicate n x).map PyData.int)) := fun x n hx hn h => EvK.dat (EvO.k (EvO.is (evo_rep (n := (n : Int)) (EvO.k (evo_lst (eds_cons hx.int eds_nil) (by show 1 ≤ 100000; omega))) hn (by omega) (by omega) (by rw [Int.toNat_natCast]; show 1 * n ≤ 100000; omega)) (by rw [Int.toNat_natCast, List.map_replicate, rep_one])))
    have rb : ∀ (x : Int) (n : Nat), 0 ≤ x → x ≤ 1 → Bits (List.replicate n x) := fun x n h0 h1 y hy => by rw [List.eq_of_mem_replicate hy]; exact ⟨h0, h1⟩
    have isE : ∀ {J : Hp} {r : Addr} {as bs : List Int}, J r = some (.lst (((sgn cs g 0 bs).drop (sgn cs g 0 as).length).map V.int)) → Dp K J (.ref r) (.list (([] : List Int).map PyData.int)) := fun h => dp_list (ns := []) h
    have hex : ∀ {J : Hp} {as : List Int}, RdAt K (rdC K) J p l cs g 0 as → ∃ o, J p = some o := fun R => by obtain ⟨dx, S, PL, I, eP, _⟩ := R.at_; exact ⟨_, eP⟩
    have O1 : RdO cs g 0 [] := ⟨pl, by omega, (fun _ h => nomatch h), Nat.zero_le _⟩
    have lenr : ∀ (x : Int) (n : Nat), (List.replicate n x).length = n := fun x n => List.length_replicate
    have b1 := rb c 2000 c0 c1
    have b2 := rb (1 - c) 1990 (by omega) (by omega)
    have e1 := lenr c 2000
    have e2 := lenr (1 - c) 1990
    have k1 : ∀ {σ : L2.St} {G : Hp}, σ[1]? = some (some (.int c)) → EvD K (tOp rRep (tLst (tCons (tVar 1) tNil)) (tC (.int 2000))) σ G (.list ((List.replicate 2000 c).map PyData.int)) := fun h => rep c 2000 (ev_var h) ev_c (by omega)
    have k2 : ∀ {σ : L2.St} {G : Hp}, σ[1]? = some (some (.int c)) → EvD K (tOp rRep (tLst (tCons (tOp (rI0 fun i j => V.int (i - j)) (tC (.int 1)) (tVar 1)) tNil)) (tC (.int 1990))) σ G (.list ((List.replicate 1990 (1 - c)).map PyData.int)) := fun h => rep (1 - c) 1990 (ev_op0 (g := fun i j => V.int (i - j)) ev_c (ev_var h)) ev_c (by omega)
    generalize List.replicate 2000 c = A1 at b1 e1 k1
    generalize List.replicate 1990 (1 - c) = A2 at b2 e2 k2
    refine hold (seqT (ifTake (rtakeOk (ev_var rfl) (k1 rfl) R1 O1 b1 (by rw [e1]; show 0 + 2000 ≤ 4000; omega) fun r1 H2 nr1 kp1 er1 R2 => ?_)))
    have O2 : RdO cs g 0 ([] ++ A1) := ⟨pl, by omega, b1, by rw [List.nil_append, e1]; omega⟩
    refine ifOrF (EvB.is (evb_test (ev_neL (ns := []) (ms := []) (ev_c.dat fun J sJ => dp_same sJ _ _ (isE er1)) emp)) rfl) fun H3 s3 => ?_
    refine ifTake1 (rtakeOk (ev_var rfl) (k2 rfl) (R2.same s3) O2 b2 (by rw [List.nil_append, e1, e2]; omega) fun r2 H4 nr2 kp2 er2 R4 => ?_)
    have O4 : RdO cs g 0 ([] ++ A1 ++ A2) := ⟨pl, by omega, b1.both b2, by rw [List.nil_append, List.length_append, e1, e2]; omega⟩
    have L4 : ([] ++ A1 ++ A2).length = 3990 := by rw [List.nil_append, List.length_append, e1, e2]
    refine ifFs (EvB.is (evb_test (ev_neL (ns := []) (ms := []) (ev_c.dat fun J sJ => dp_same sJ _ _ (isE er2)) emp)) rfl) fun H5 s5 => ?_
    have R5 := R4.same s5
    have kA : Keep [p, l] H H5 := (((Same.keep s1).trans kp1).trans (Same.keep s3)).trans (kp2.trans (Same.keep s5))
    have nn : ∀ x ∈ [p, l], H x = none := fun x hx => by
      simp only [List.mem_cons, List.not_mem_nil, or_false] at hx
      rcases hx with rfl | rfl
      · exact np
      · exact nl
    generalize [] ++ A1 ++ A2 = A at R5 O4 L4
    clear R4 R2
    refine hold (forTI (ns := [11, 10, 1, 0]) (evd_tup (eds_cons evd_int (eds_cons evd_int (eds_cons evd_int (eds_cons evd_int eds_nil)))) (by show 4 ≤ 100000; omega)) fun pt H6 s6 ht => ⟨fun i σ' J => ∃ y3 as, σ' = [some v, some (.int c), some (.ref p), y3, none] ∧ Keep [p, l] H J ∧ SqT K J pt ([11, 10, 1, 0].map V.int) ∧ RdAt K (rdC K) J p l cs g 0 as ∧ RdO cs g 0 as ∧ as.length = (if i ≤ 1 then 3990 else 4000),
      ⟨_, A, rfl, kA.trans (Same.keep s6), ht, R5.same s6, O4, L4⟩, fun i σ' J ⟨_, _, _, _, h, _⟩ => h, ?_, ?_⟩)
    · rintro i n σ' J hi ⟨y3, as, rfl, kJ, hJ, RJ, OJ, lJ⟩
      have hn : (i = 0 ∧ n = 11) ∨ (i = 1 ∧ n = 10) ∨ (i = 2 ∧ n = 1) ∨ (i = 3 ∧ n = 0) := by
        match i, hi with
        | 0, hi => cases (Option.some.inj hi); exact .inl ⟨rfl, rfl⟩
        | 1, hi => cases (Option.some.inj hi); exact .inr (.inl ⟨rfl, rfl⟩)
        | 2, hi => cases (Option.some.inj hi); exact .inr (.inr (.inl ⟨rfl, rfl⟩))
        | 3, hi => cases (Option.some.inj hi); exact .inr (.inr (.inr ⟨rfl, rfl⟩))
        | j + 4, hi => simp at hi
      obtain ⟨N, rfl, hN⟩ : ∃ N : Nat, n = (N : Int) ∧ N ≤ 11 := by
        rcases hn with ⟨_, rfl⟩ | ⟨_, rfl⟩ | ⟨_, rfl⟩ | ⟨_, rfl⟩
        · exact ⟨11, rfl, by omega⟩
        · exact ⟨10, rfl, by omega⟩
        · exact ⟨1, rfl, by omega⟩
        · exact ⟨0, rfl, by omega⟩
      have kR : EvD K (tOp rRep (tLst (tCons (tVar 1) tNil)) (tVar 3)) ([some v, some (.int c), some (.ref p), some (.int (N : Int)), none] : L2.St) J (.list ((List.replicate N c).map PyData.int)) := rep c N (ev_var rfl) (ev_var rfl) (by omega)
      have bR := rb c N c0 c1
      have lR := lenr c N
      generalize List.replicate N c = B at kR bR lR
      by_cases bad : N = 11 ∨ N = 1
      · -- refused
        refine ifTake (rtakeNo (ev_var rfl) kR RJ OJ (fun gs eg gb gl => ?_) fun J1 r1 => ⟨true, T.exm .figures, fun _ ae na => ?_, fun z => nomatch z⟩)
        · have e : B = gs := by
            have := congrArg (fun d => itemsOf d) eg
            simp only [itemsOf, toI_map] at this
            exact this
          subst e
          rw [lJ, lR] at gl
          split at gl <;> omega
        · refine ifF (EvB.is (evb_or (a := !decide ((N : Int) % 10 = 1)) (b := !PyData.eqv (.list [.str (wordOf .figures)]) (.list [.str (wordOf .figures)])) (evb_test (ev_neI (ev_op (g := fun i j => V.int (i % j)) (ev_var rfl) ev_c (by decide)) ev_c)) fun _ => evb_test (ev_ne (d := .list [.str (wordOf .figures)]) (e := .list [.str (wordOf .figures)]) (evd_word2 (ev_var rfl)) (EvK.dat (EvO.k (evo_lst (eds_cons evd_str eds_nil) (by show 1 ≤ 100000; omega)))) (wordSh _) (wordSh _))) ?_) fun J2 r2 => ?_
          · rw [wordEq, decide_eq_true (show (N : Int) % 10 = 1 by omega)]
            rfl
          · refine ⟨_, as, rfl, kJ.trans (Same.keep (r1.trans r2)), same_t (r1.trans r2) hJ, RJ.same (r1.trans r2), OJ, ?_⟩
            rw [lJ]
            rcases hn with ⟨rfl, h⟩ | ⟨rfl, h⟩ | ⟨rfl, h⟩ | ⟨rfl, h⟩ <;> first | rfl | omega
      · have hle : as.length + B.length ≤ 4000 := by
          rw [lJ, lR]
          split <;> omega
        refine ifTake (rtakeOk (ev_var rfl) kR RJ OJ bR hle fun r J1 nr kp er R1' => ?_)
        refine ifF (EvB.is (evb_or (a := !decide (([] : List Int) = [])) (b := decide ((N : Int) % 10 = 1)) (evb_test (ev_neL (ns := []) (ms := []) (ev_c.dat fun J sJ => dp_same sJ _ _ (isE er)) emp)) fun _ => evb_test (ev_eqI (ev_op (g := fun i j => V.int (i % j)) (ev_var rfl) ev_c (by decide)) ev_c)) ?_) fun J2 r2 => ?_
        · rw [decide_eq_true rfl, decide_eq_false (show ¬ (N : Int) % 10 = 1 by omega)]
          rfl
        · have kk := kp.trans (Same.keep r2)
          refine ⟨_, as ++ B, rfl, kJ.trans kk, sqt_keep kk RJ.nt hJ, R1'.same r2, ⟨pl, by omega, OJ.bits.both bR, by rw [List.length_append]; omega⟩, ?_⟩
          rw [List.length_append, lJ, lR]
          rcases hn with ⟨rfl, h⟩ | ⟨rfl, h⟩ | ⟨rfl, h⟩ | ⟨rfl, h⟩ <;> (split <;> split <;> omega)
    · rintro σ' J ⟨y3, as, rfl, kJ, hJ, RJ, OJ, lJ⟩
      refine hold (retV (v := .bl true) (EvV.is (ev_and (ev_eqI (ev_lacking (ev_var rfl) RJ) ev_c) fun _ => ev_eqL (ns := []) (ms := []) (EvK.dat (EvO.k (evo_rtold (ev_var rfl) RJ))) emp) rfl) fun J1 r1 => q J1 ((kJ.trans (Same.keep r1)).same nn))
end

section
structure Ob where
  a : Addr
  p : Addr
  l : Addr
  w : Addr
  cs : List Int
  row : List Int
  g : Int
  m : Nat
abbrev Ob.four (o : Ob) : List Addr := [o.a, o.p, o.l, o.w]
structure Obk (o : Ob) : Prop where
  pl : Plan o.cs o.g
  hm : o.m ≤ 60
  rb : Bits o.row
  rl : o.row.length ≤ 1500
  ne : o.a ≠ o.p ∧ o.a ≠ o.l ∧ o.a ≠ o.w ∧ o.p ≠ o.l ∧ o.p ≠ o.w ∧ o.l ≠ o.w
abbrev Is8 (K : PySem.W.Frag) (M : List Addr) (H : Hp) (o : Ob) (as : List Int) (n : Nat) : Prop := One8 K (rdC K) M H o.a o.p o.l o.w o.cs o.g o.m o.row as n
structure I8 (K : PySem.W.Frag) (M : List Addr) (sh : Addr) (o1 o2 : Ob) (as1 as2 : List Int) (n1 n2 : Nat) (ys : List V) (H : Hp) : Prop where
  k1 : Obk o1
  k2 : Obk o2
  cov : ∀ x ∈ M, x ∈ o1.four ∨ x ∈ o2.four ∨ x = sh
  dj : ∀ x ∈ o1.four, x ∉ o2.four
  s1 : sh ∉ o1.four
  s2 : sh ∉ o2.four
  sm : sh ∈ M
  b1 : Is8 K M H o1 as1 n1
  b2 : Is8 K M H o2 as2 n2
  r1 : RdO o1.cs o1.g o1.m as1
  r2 : RdO o2.cs o2.g o2.m as2
  l1 : as1.length ≤ 6 * n1
  l2 : as2.length ≤ 6 * n2
  es : H sh = some (.lst ys)
  ps : Pairs K (imm M H) ys
section
variable {K : PySem.W.Frag} {M : List Addr} {sh : Addr} {o1 o2 : Ob} {as1 as2 : List Int} {n1 n2 : Nat} {ys : List V} {H H' : Hp} {Q : VK} {E : XK}
theorem I8.swap (I : I8 K M sh o1 o2 as1 as2 n1 n2 ys H) : I8 K M sh o2 o1 as2 as1 n2 n1 ys H :=
  ⟨I.k2, I.k1, fun x hx => by rcases I.cov x hx with h | h | h; exact .inr (.inl h); exact .inl h; exact .inr (.inr h), fun x h z => I.dj x z h, I.s2, I.s1, I.sm, I.b2, I.b1, I.r2, I.r1, I.l2, I.l1, I.es, I.ps⟩
theorem I8.same (I : I8 K M sh o1 o2 as1 as2 n1 n2 ys H) (s : Same H H') : I8 K M sh o1 o2 as1 as2 n1 n2 ys H' :=
  ⟨I.k1, I.k2, I.cov, I.dj, I.s1, I.s2, I.sm, I.b1.same s, I.b2.same s, I.r1, I.r2, I.l1, I.l2, s _ _ I.es, I.ps.same (imm_keep (Same.keep (M := []) s) (fun _ z => nomatch z))⟩
theorem I8.live (I : I8 K M sh o1 o2 as1 as2 n1 n2 ys H) : Live M H := fun x hx => by
  rcases I.cov x hx with h | h | rfl
  · exact I.b1.live x h
  · exact I.b2.live x h
  · exact ⟨_, I.es, nt_lst _⟩
theorem I8.take (I : I8 K M sh o1 o2 as1 as2 n1 n2 ys H) (c : Int) (hn : n1 ≤ 400) (k : ∀ as' H', Keep M H H' → I8 K M sh o1 o2 as' as2 (n1 + 1) n2 ys H' → Q (.bl true) H') : sp_take8 K [.ref o1.a, .int c] H Q E :=
  ⟨M, o1.a, o1.p, o1.l, o1.w, o1.cs, o1.row, as1, o1.g, c, o1.m, n1, rfl, I.b1, I.r1, I.live, I.k1.rb, I.k1.rl, by have := I.l1; omega, by omega, I.k1.ne, fun as' H' R' hl kp O' =>
    k as' H' (kp.mono I.b1.ms) ⟨I.k1, I.k2, I.cov, I.dj, I.s1, I.s2, I.sm, O', I.b2.keep kp I.b1.ms I.b1.live.nt (fun x hx z => I.dj x z hx), R', I.r2, by have := I.l1; omega, I.l2, kp _ _ I.s1 I.es, I.ps.same (imm_keep kp I.b1.ms)⟩⟩
theorem I8.seen (I : I8 K M sh o1 o2 as1 as2 n1 n2 ys H) (b : Bool) (hn : ys.length ≤ 1000) (k : ∀ q0 H', Keep M H H' → I8 K M sh o1 o2 as1 as2 n1 n2 (ys ++ [.ref q0]) H' → Q (.bl true) H') : sp_seen8 K [.ref o1.a, .ref sh, .bl b] H Q E := by
  have sub : ∀ x ∈ [sh], x ∈ M := fun x hx => by rw [List.mem_singleton.mp hx]; exact I.sm
  have nt : NoTup [sh] H := notup_of fun x hx => by rw [List.mem_singleton.mp hx]; exact ⟨_, I.es, nt_lst _⟩
  exact ⟨M, o1.a, o1.p, o1.l, o1.w, sh, ys, b, o1.cs, o1.row, as1, o1.g, o1.m, n1, rfl, I.b1, I.k1.hm, I.k1.pl, I.live, I.sm, I.s1, I.es, I.ps, hn, fun q0 H' kp e P =>
    k q0 H' (kp.mono sub) ⟨I.k1, I.k2, I.cov, I.dj, I.s1, I.s2, I.sm, I.b1.keep kp sub nt (fun x hx z => I.s1 (by rw [← List.mem_singleton.mp z]; exact hx)), I.b2.keep kp sub nt (fun x hx z => I.s2 (by rw [← List.mem_singleton.mp z]; exact hx)), I.r1, I.r2, I.l1, I.l2, e, P⟩⟩
/-- both, however far -/
def W8 (K : PySem.W.Frag) (M : List Addr) (sh : Addr) (o1 o2 : Ob) (i j : Nat) (H : Hp) : Prop := ∃ as1 as2 n1 n2 ys, I8 K M sh o1 o2 as1 as2 n1 n2 ys H ∧ n1 ≤ i ∧ n2 ≤ i ∧ ys.length ≤ j
theorem W8.same {i j : Nat} (W : W8 K M sh o1 o2 i j H) (s : Same H H') : W8 K M sh o1 o2 i j H' := by
  obtain ⟨as1, as2, n1, n2, ys, I, h⟩ := W
  exact ⟨as1, as2, n1, n2, ys, I.same s, h⟩
theorem W8.take {i j : Nat} {v : V} (W : W8 K M sh o1 o2 i j H) (hv : v = .ref o1.a ∨ v = .ref o2.a) (c : Int) (hi : i ≤ 400) (k : ∀ H', Keep M H H' → W8 K M sh o1 o2 (i + 1) j H' → Q (.bl true) H') : sp_take8 K [v, .int c] H Q E := by
  obtain ⟨as1, as2, n1, n2, ys, I, h1, h2, h3⟩ := W
  rcases hv with rfl | rfl
  · exact I.take c (by omega) fun as' H' kp I' => k H' kp ⟨as', as2, n1 + 1, n2, ys, I', by omega, by omega, h3⟩
  · exact I.swap.take c (by omega) fun as' H' kp I' => k H' kp ⟨as1, as', n1, n2 + 1, ys, I'.swap, by omega, by omega, h3⟩
theorem W8.seen {i j : Nat} {v : V} (W : W8 K M sh o1 o2 i j H) (hv : v = .ref o1.a ∨ v = .ref o2.a) (b : Bool) (hj : j ≤ 1000) (k : ∀ H', Keep M H H' → W8 K M sh o1 o2 i (j + 1) H' → Q (.bl true) H') : sp_seen8 K [v, .ref sh, .bl b] H Q E := by
  obtain ⟨as1, as2, n1, n2, ys, I, h1, h2, h3⟩ := W
  have hl : ∀ q0 : Addr, (ys ++ [V.ref q0]).length ≤ j + 1 := fun q0 => by rw [List.length_append]; show _ + 1 ≤ _; omega
  rcases hv with rfl | rfl
  · exact I.seen b (by omega) fun q0 H' kp I' => k H' kp ⟨as1, as2, n1, n2, _, I', h1, h2, hl q0⟩
  · exact I.swap.seen b (by omega) fun q0 H' kp I' => k H' kp ⟨as1, as2, n1, n2, _, I'.swap, h1, h2, hl q0⟩
theorem pick8 {x : Int} (h0 : 0 ≤ x) (h1 : x ≤ 1) : ∃ v, atI [V.ref o1.a, .ref o2.a] x = some v ∧ (v = .ref o1.a ∨ v = .ref o2.a) := by
  have : x = 0 ∨ x = 1 := by omega
  rcases this with rfl | rfl
  · exact ⟨_, rfl, .inl rfl⟩
  · exact ⟨_, rfl, .inr rfl⟩
end
/-- as EvV; what comes is a list of these -/
def EvRL (te : TE) (σ : L2.St) (H : Hp) (xs : List V) : Prop := ∀ H1 (Q : VK), Same H H1 → (∀ r H2, Same H1 H2 → H2 r = some (.lst xs) → Q (.ref r) H2) → te σ H1 Q
theorem evr_v {te : TE} {σ : L2.St} {H : Hp} {p : Addr} {xs : List V} (h : EvV te σ H (.ref p)) (hp : H p = some (.lst xs)) : EvRL te σ H xs := fun H1 Q s1 k => h H1 _ s1 fun H2 s2 => k p H2 s2 ((s1.trans s2) _ _ hp)
theorem evr_cat {K : PySem.W.Frag} {ta tb : TE} {σ : L2.St} {H : Hp} {xs ys : List V} (ha : EvRL ta σ H xs) (hb : EvRL tb σ H ys) (hl : xs.length + ys.length ≤ 100000) : EvRL (tOp (rCatL K) ta tb) σ H (xs ++ ys) := fun H1 Q s1 k =>
  ha H1 _ s1 fun p H2 s2 ep => hb H2 _ (s1.trans s2) fun q H3 s3 eq => ⟨p, q, xs, ys, rfl, rfl, .inl (.inl (s3 _ _ ep)), .inl (.inl eq), Nat.le_trans hl (by decide), fun r nr => k r _ ((s2.trans s3).trans (same_upd nr)) upd_same⟩
theorem ifNotCall2 {sp : Sp} {ta tb : TE} {a u : TS} {D : Ends} {σ : L2.St} {H : Hp} {x y : V} (ha : EvV ta σ H x) (hb : EvV tb σ H y) (k : ∀ H1, Same H H1 → sp [x, y] H1 (fun z H2 => ∃ b, z = .bl b ∧ (if (!b) = true then a { D with nx := u D } σ H2 else u D σ H2)) E0) : tSeq (tIfS (tNot (tB (tCall sp [] E0 (tCons ta (tCons tb tNil))))) a tNext) u D σ H :=
  ha H _ (Same.refl H) fun H1 s1 => hb H1 _ s1 fun H2 s2 => k H2 (s1.trans s2)
theorem ifOrNot3 {sp : Sp} {ta tb tc : TE} {tt : TT} {a : TS} {D : Ends} {σ : L2.St} {H : Hp} {x y z : V} (ha : EvV ta σ H x) (hb : EvV tb σ H y) (hc : EvV tc σ H z) (k : ∀ H1, Same H H1 → sp [x, y, z] H1 (fun r H2 => ∃ b, r = .bl b ∧ (if (!b) = true then a D σ H2 else tIfS tt a tNext D σ H2)) E0) : tIfS (tOr (tNot (tB (tCall sp [] E0 (tCons ta (tCons tb (tCons tc tNil)))))) tt) a tNext D σ H :=
  ha H _ (Same.refl H) fun H1 s1 => hb H1 _ s1 fun H2 s2 => hc H2 _ (s1.trans s2) fun H3 s3 => by
    have := k H3 ((s1.trans s2).trans s3)
    show sp [x, y, z] H3 (fun r H2 => ∃ b, r = .bl b ∧ (if (!b) = true then (if true = true then a D σ H2 else tNext D σ H2) else tt σ H2 fun c H3 => if c = true then a D σ H3 else tNext D σ H3)) E0
    simp only [if_true]
    exact this
theorem ifNot3 {sp : Sp} {ta tb tc : TE} {a : TS} {D : Ends} {σ : L2.St} {H : Hp} {x y z : V} (ha : EvV ta σ H x) (hb : EvV tb σ H y) (hc : EvV tc σ H z) (k : ∀ H1, Same H H1 → sp [x, y, z] H1 (fun r H2 => ∃ b, r = .bl b ∧ (if (!b) = true then a D σ H2 else D.nx σ H2)) E0) : tIfS (tNot (tB (tCall sp [] E0 (tCons ta (tCons tb (tCons tc tNil)))))) a tNext D σ H :=
  ha H _ (Same.refl H) fun H1 s1 => hb H1 _ s1 fun H2 s2 => hc H2 _ (s1.trans s2) fun H3 s3 => k H3 ((s1.trans s2).trans s3)
end

section
variable {P : Program} {w : World} {K : PySem.W.Frag} {mg : Str → Option Value} {base : Heap} {f fW : Addr} {fd fdW : FuncData}
theorem ev_edge8 {ta tb : TE} {σ : L2.St} {H : Hp} {cs : List Int} {g c : Int} (h : EvD K ta σ H (planD cs g)) (h2 : EvV tb σ H (.int c)) (pl : Plan cs g) (c0 : 0 ≤ c) (c1 : c ≤ 1) : EvV (tCall (sp_edge8 K) [] E0 (tCons ta (tCons tb tNil))) σ H (.bl true) :=
  evv_call (eds_cons h (eds_cons h2.int eds_nil)) fun vs H1 Q s1 d1 k => by
    obtain ⟨v, u, rfl, a1, a2⟩ := dpaN2 d1
    cases dp_int a2
    exact ⟨_, cs, g, c, rfl, a1, pl, c0, c1, k⟩
abbrev s_law : Stmt := topS 61
theorem sc_law : FnScope ["_law_script", "_law_both", "_law_cell", "_law_shown", "_law_k", "_law_turn", "_law_found", "_law_copy"] ["_law_script"] (defScope s_law) := ⟨rfl, rfl, rfl, by decide +kernel, rfl, by decide +kernel, by decide +kernel⟩

def sp_law (K : PySem.W.Frag) : Sp := fun vs H Q _ => ∃ (a : Addr) (ns : List Int), vs = [.ref a] ∧ SqL K H a (ns.map V.int) ∧ ∀ H', Q (.bl true) H'
theorem ok_law (F : FnP K "law" s_law f fd) (c__law_cell_at : Cal P w K mg base CX0 1 "_law_cell_at" ["_law_script", "_law_k"] (sp_cell_at K)) (c__law_made : Cal P w K mg base CX0 9 "_law_made" ["_law_script", "_law_k"] (sp_made8 K)) (c__law_refused : Cal P w K mg base CX0 6 "_law_refused" ["_law_plan_here", "_law_cell"] (sp_refused8 K))
    (c__law_edge : Cal P w K mg base CX0 9 "_law_edge" ["_law_plan_here", "_law_figure"] (sp_edge8 K)) (c__law_take : Cal P w K mg base CX0 9 "_law_take" ["_law_one", "_law_cell"] (sp_take8 K)) (c__law_seen : Cal P w K mg base CX0 3 "_law_seen" ["_law_one", "_law_shown", "_law_is_turned"] (sp_seen8 K))
    (z_len : mg "len" = none) (z_range : mg "range" = none) (z_min : mg "min" = none) : FnOk P w K mg base CX0 10 f fd ["_law_script"] (sp_law K) := by
  refine F.ok sc_law (fun vs H Q E h => ?_) (fun cdv A outer s H vs Q E hr h => ?_)
  · obtain ⟨_, _, rfl, _⟩ := h
    rfl
  · obtain ⟨a, ns, rfl, hs, q⟩ := h
    refine ⟨_, PSs.nox (pss_hold (ps_set (i := 1) sc_law.nd rfl (Or.inl rfl) (pe_lst (pa_cons (pe_f c__law_made (hr.mono (by decide)) (pa_cons (pv 0) (pa_cons pe_int pa_nil))) (pa_cons (pe_f c__law_made (hr.mono (by decide)) (pa_cons (pv 0) (pa_cons pe_int pa_nil))) pa_nil))))
      (pss_hold (ps_set (i := 2) sc_law.nd rfl (Or.inl rfl) (pe_f c__law_cell_at (hr.mono (by decide)) (pa_cons (pv 0) (pa_cons pe_int pa_nil))))
      (pss_hold (ps_if (pt_not (pt_val (pe_f c__law_refused (hr.mono (by decide)) (pa_cons (pe_dget (hu_of hr) (pe_ix (ix_listK (K := K) rfl) (pv 1) pe_int (fun _ _ => rfl)) pe_str (fun _ _ => rfl)) (pa_cons (pe_op op_fdiv (pv 2) pe_int) pa_nil))))) (pss_one (ps_ret pe_bl)) pss_nil)
      (pss_hold (ps_if (PW.pt (pw_and (pt_cmpR op_eq (pe_op op_mod (pe_op op_fdiv (pv 2) pe_int) pe_int) pe_int (nomark _)) (pw_and1 (pt_not (pt_val (pe_f c__law_edge (hr.mono (by decide)) (pa_cons (pe_dget (hu_of hr) (pe_ix (ix_listK (K := K) rfl) (pv 1) pe_int (fun _ _ => rfl)) pe_str (fun _ _ => rfl)) (pa_cons (pe_op op_mod (pv 2) pe_int) pa_nil)))))))) (pss_one (ps_ret pe_bl)) pss_nil)
      (pss_hold (ps_set (i := 3) sc_law.nd rfl (Or.inl rfl) (pe_lst pa_nil))
      (pss_hold (ps_for PassesOwn.never rfl (pi_range2 rfl z_range (pa_cons pe_int (pa_cons (pe_callB (call_min2 rfl) (by rfl) z_min (by decide +kernel) (pa_cons (pe_callB (lenK (K := K) rfl) (by rfl) z_len (by decide +kernel) (pa_cons (pv 0) pa_nil)) (pa_cons pe_int pa_nil))) pa_nil))) (pg_name (i := 4) sc_law.nd rfl (.inl rfl)) (pss_hold (ps_set (i := 2) sc_law.nd rfl (Or.inl rfl) (pe_f c__law_cell_at (hr.mono (by decide)) (pa_cons (pv 0) (pa_cons (pv 4) pa_nil))))
      (pss_hold (ps_if (pt_not (pt_val (pe_f c__law_take (hr.mono (by decide)) (pa_cons (pe_ix (ix_listK (K := K) rfl) (pv 1) (pe_op op_mod (pv 2) pe_int) (fun _ _ => rfl)) (pa_cons (pe_op op_fdiv (pv 2) pe_int) pa_nil))))) (pss_one (ps_ret pe_bl)) pss_nil)
      (pss_hold (ps_set (i := 5) sc_law.nd rfl (Or.inl rfl) (pe_op op_mod (pe_op op_fdiv (pv 2) pe_int) pe_int))
      (pss_one (ps_if (PW.pt (pw_or (pt_not (pt_val (pe_f c__law_seen (hr.mono (by decide)) (pa_cons (pe_ix (ix_listK (K := K) rfl) (pv 1) (pv 5) (fun _ _ => rfl)) (pa_cons (pv 3) (pa_cons (pe_cmpR op_lt (pe_op op_mod (pv 2) pe_int) pe_int (nomark _)) pa_nil)))))) (pw_or1 (pt_not (pt_val (pe_f c__law_seen (hr.mono (by decide)) (pa_cons (pe_ix (ix_listK (K := K) rfl) (pv 1) (pe_op op_sub pe_int (pv 5)) (fun _ _ => rfl)) (pa_cons (pv 3) (pa_cons (pe_cmpR op_lt (pe_op op_mod (pv 2) pe_int) pe_int (nomark _)) pa_nil))))))))) (pss_one (ps_ret pe_bl)) pss_nil))))))
      (pss_hold (ps_set (i := 3) sc_law.nd rfl (Or.inl rfl) (pe_op (op_catLK (K := K) rfl) (pe_op (op_catLK (K := K) rfl) (pv 3) (pe_dget (hu_of hr) (pe_ix (ix_listK (K := K) rfl) (pv 1) pe_int (fun _ _ => rfl)) pe_str (fun _ _ => rfl))) (pe_dget (hu_of hr) (pe_ix (ix_listK (K := K) rfl) (pv 1) pe_int (fun _ _ => rfl)) pe_str (fun _ _ => rfl))))
      (pss_one (ps_ret (pe_and (pe_f c__law_seen (hr.mono (by decide)) (pa_cons (pe_ix (ix_listK (K := K) rfl) (pv 1) pe_int (fun _ _ => rfl)) (pa_cons (pe_lst pa_nil) (pa_cons pe_bl pa_nil)))) (pe_one (pe_cmpR (op_eqDK (K := K) rfl (hu2_of hr)) (pe_lc (own := [("_law_found", 6), ("_law_copy", 7)]) (g := gTup K 2 (gCons (gName 6) (gCons (gName 7) gNil))) rfl sc_law.nd (pi_listK (K := K) rfl (pv 3)) (blkOk_by (own := [("_law_found", 6), ("_law_copy", 7)]) (N := ["_law_script", "_law_both", "_law_cell", "_law_shown", "_law_k", "_law_turn", "_law_found", "_law_copy"]) (sc := defScope s_law) (by decide +kernel)) (fun _ _ _ _ _ => pg_tupK (K := K) (n := 2) rfl rfl (pgs_cons (pg_name (i := 6) sc_law.nd rfl (Or.inl rfl)) (pgs_cons (pg_name (i := 7) sc_law.nd rfl (Or.inl rfl)) pgs_nil))) (fun _ _ _ _ _ => pts_one (pt_cmpR (op_neDK (K := K) rfl (hu2_of hr)) (pv 6) (pv 7) (nomark _))) (fun _ _ _ _ _ => pe_int)) (pe_lst pa_nil) (nomark _))))))))))))), ?_⟩
    have hsd : Dp K H (.ref a) (.list (ns.map PyData.int)) := .lst hs (dpa_ints ns)
    refine asgT (lstT (consT ?_))
    refine (evd_var rfl hsd) H _ (Same.refl _) fun va H1 t1 dva => ⟨va, ns, 0, [], rfl, dva, (fun _ z => nomatch z), fun a0 p0 l0 w0 cs0 g0 m0 row0 H2 _ _ _ _ s2 fr0 pl0 hm0 rb0 rl0 lw0 O0 => ?_⟩
    have t2 := t1.trans s2
    refine (evd_var rfl (dp_same t2 _ _ hsd)) H2 _ (Same.refl _) fun vb H3 t3 dvb => ⟨vb, ns, 1, [a0, p0, l0, w0], rfl, dvb, (O0.same t3).live, fun a1 p1 l1 w1 cs1 g1 m1 row1 H4 na1 np1 nl1 nw1 s4 fr1 pl1 hm1 rb1 rl1 lw1 O1 => ⟨(by show 2 ≤ sizeLine; decide), fun pb nb => ?_⟩⟩
    have t13 := t2.trans t3
    have O0' : One8 K (rdC K) (a1 :: p1 :: l1 :: w1 :: [a0, p0, l0, w0]) H4 a0 p0 l0 w0 cs0 g0 m0 row0 [] 0 := (((((O0.same t3).more (Same.refl _) nw1).more (Same.refl _) nl1).more (Same.refl _) np1).more (Same.refl _) na1).same s4
    have fr0' : ∀ x ∈ [a0, p0, l0, w0], H x = none := fun x hx => t1.free (fr0 x hx)
    have fr1' : ∀ x ∈ [a1, p1, l1, w1], H x = none := fun x hx => t13.free (fr1 x hx)
    have dj : ∀ x ∈ [a0, p0, l0, w0], x ∉ [a1, p1, l1, w1] := fun x hx z => (O0.same t3).live.new (fr1 x z) hx
    have sb := same_upd nb (o := HO.lst [V.ref a0, .ref a1])
    have eb := upd_same (H := H4) (a := pb) (o := HO.lst [V.ref a0, .ref a1])
    have O0b := O0'.same sb
    have O1b := O1.same sb
    have hM4 : ∀ x ∈ a1 :: p1 :: l1 :: w1 :: [a0, p0, l0, w0], H x = none := fun x hx => by
      rcases List.mem_append.mp (show x ∈ [a1, p1, l1, w1] ++ [a0, p0, l0, w0] from hx) with h | h
      · exact fr1' x h
      · exact fr0' x h
    have live4 : Live (a1 :: p1 :: l1 :: w1 :: [a0, p0, l0, w0]) H4 := fun x hx => by
      rcases List.mem_append.mp (show x ∈ [a1, p1, l1, w1] ++ [a0, p0, l0, w0] from hx) with h | h
      · exact O1.live x h
      · exact O0'.live x h
    have pbM := live4.new nb
    have sB : Same H (upd H4 pb (.lst [V.ref a0, .ref a1])) := (t13.trans s4).trans sb
    generalize upd H4 pb (.lst [V.ref a0, .ref a1]) = G at sb eb O0b O1b sB
    clear O0 O1 O0' fr0 fr1 live4
    refine hold (asgV (v := .int (cellAt ns 5)) (ev_cell (k := 5) (evd_var rfl (dp_same sB _ _ hsd)) ev_c) fun G1 r1 => ?_)
    have b0 : 0 ≤ cellAt ns 5 % 2 := Int.emod_nonneg _ (by decide)
    have b1 : cellAt ns 5 % 2 < 2 := Int.emod_lt_of_pos _ (by decide)
    have plan0 : ∀ {σ : L2.St} {J : Hp}, σ[1]? = some (some (.ref pb)) → Same G J → EvD K (tDGet (tOp (rIxL K) (tVar 1) (tC (.int 0))) (tC (.str "plan"))) σ J (planD cs0 g0) := fun h s => by
      obtain ⟨v, r, t, z, e, d1, _⟩ := (O0b.same s).dic
      exact (ev_dget (ev_ixAt (ev_var h) (s _ _ eb) ev_c rfl) e kv_plan).dat fun J sJ => dp_same ((imm_same _ _).trans sJ) _ _ d1
    refine hold (ifNo (EvB.is (evb_not (evb_b (ev_refused8 (plan0 rfl r1) (ev_op (g := fun i j => V.int (i / j)) (ev_var rfl) ev_c ⟨by decide, by decide⟩) pl0))) rfl) fun G2 r2 => ?_)
    refine hold (ifNo (EvB.is (evb_and (evb_test (ev_eqI (ev_op (g := fun i j => V.int (i % j)) (ev_op (g := fun i j => V.int (i / j)) (ev_var rfl) ev_c ⟨by decide, by decide⟩) ev_c (by decide)) ev_c)) fun _ => evb_not (evb_b (ev_edge8 (plan0 rfl (r1.trans r2)) (ev_op (g := fun i j => V.int (i % j)) (ev_var rfl) ev_c (by decide)) pl0 b0 (by omega)))) (Bool.and_false _)) fun G3 r3 => ?_)
    refine hold (asgO (K := K) (ds := []) (evo_lst eds_nil (by show 0 ≤ 100000; omega)) fun sh vs3 G4 nsh r4 e4 d4 => ?_)
    cases d4
    have r13 := (r1.trans r2).trans r3
    have shM : sh ∉ a1 :: p1 :: l1 :: w1 :: [a0, p0, l0, w0] := Live.new (H := G3) (fun x hx => by
      rcases List.mem_append.mp (show x ∈ [a1, p1, l1, w1] ++ [a0, p0, l0, w0] from hx) with h | h
      · exact (O1b.same r13).live x h
      · exact (O0b.same r13).live x h) nsh
    have ne0 : ∀ {x y z t : Addr}, t ∉ a1 :: p1 :: l1 :: w1 :: [a0, p0, l0, w0] → t ∉ [a1, p1, l1, w1] ∧ t ∉ [a0, p0, l0, w0] := fun h => ⟨fun z => h (List.mem_append.mpr (.inl z) : _ ∈ [a1, p1, l1, w1] ++ [a0, p0, l0, w0]), fun z => h (List.mem_append.mpr (.inr z) : _ ∈ [a1, p1, l1, w1] ++ [a0, p0, l0, w0])⟩
    obtain ⟨sh1, sh0⟩ := ne0 (x := sh) (y := sh) (z := sh) shM
    have pbs : pb ≠ sh := fun z => by
      rw [← z, r13 _ _ eb] at nsh
      cases nsh
    have nes : ∀ {x p l w : Addr} {cs row as : List Int} {g : Int} {m n : Nat} {M : List Addr} {J : Hp}, l ≠ w → One8 K (rdC K) M J x p l w cs g m row as n → x ≠ p ∧ x ≠ l ∧ x ≠ w ∧ p ≠ l ∧ p ≠ w ∧ l ≠ w := fun hl O => by
      obtain ⟨v, r, t, s, e, _⟩ := O.dic
      obtain ⟨dx, S, PL, I, e2, _⟩ := O.rd.at_
      obtain ⟨xs, ex, _⟩ := O.sh
      have e3 := O.rd.sg
      refine ⟨fun z => ?_, fun z => ?_, fun z => ?_, fun z => ?_, fun z => ?_, hl⟩
      · rw [z, e2] at e
        cases e
      · rw [z, e3] at e
        cases e
      · rw [z, ex] at e
        cases e
      · rw [z, e3] at e2
        cases e2
      · rw [z, ex] at e2
        cases e2
    have W0 : W8 K (sh :: a1 :: p1 :: l1 :: w1 :: [a0, p0, l0, w0]) sh ⟨a0, p0, l0, w0, cs0, row0, g0, m0⟩ ⟨a1, p1, l1, w1, cs1, row1, g1, m1⟩ 0 0 G4 :=
      ⟨[], [], 0, 0, [], ⟨⟨pl0, hm0, rb0, rl0, nes lw0 O0b⟩, ⟨pl1, hm1, rb1, rl1, nes lw1 O1b⟩, fun x hx => by
        rcases List.mem_cons.mp hx with h | h
        · exact .inr (.inr h)
        · rcases List.mem_append.mp (show x ∈ [a1, p1, l1, w1] ++ [a0, p0, l0, w0] from h) with h | h
          · exact .inr (.inl h)
          · exact .inl h, dj, sh0, sh1, List.mem_cons_self, (O0b.same r13).more r4 nsh, (O1b.same r13).more r4 nsh, ⟨pl0, hm0, (fun _ h => nomatch h), Nat.zero_le _⟩, ⟨pl1, hm1, (fun _ h => nomatch h), Nat.zero_le _⟩, Nat.le_refl _, Nat.le_refl _, e4, .nil⟩, Nat.le_refl _, Nat.le_refl _, Nat.le_refl _⟩
    have eb4 := (r13.trans r4) _ _ eb
    have sH4 := sB.trans (r13.trans r4)
    have pbM' : pb ∉ sh :: a1 :: p1 :: l1 :: w1 :: [a0, p0, l0, w0] := fun z => by
      rcases List.mem_cons.mp z with h | h
      · exact pbs h
      · exact pbM h
    have hMn : ∀ x ∈ sh :: a1 :: p1 :: l1 :: w1 :: [a0, p0, l0, w0], H x = none := fun x hx => by
      rcases List.mem_cons.mp hx with h | h
      · rw [h]
        exact (sB.trans r13).free nsh
      · exact hM4 x h
    clear O0b O1b plan0 nes
    generalize sh :: a1 :: p1 :: l1 :: w1 :: [a0, p0, l0, w0] = M at W0 pbM' hMn
    -- the calls
    have hL0 : (0 : Int) ≤ (ns.length : Int) := Int.natCast_nonneg _
    refine hold (forR2 (lo := 6) (n := if (18 : Int) < (ns.length : Int) then 18 else (ns.length : Int)) (EvV.is ev_c rfl) (ev_min (EvV.is (ev_lenL (evd_var rfl (dp_same sH4 _ _ hsd))) (by rw [List.length_map])) ev_c) (by split <;> omega) (by split <;> omega) (by omega)
      (fun i σ' J => ∃ y2 y4 y5, σ' = [some (.ref a), some (.ref pb), y2, some (.ref sh), y4, y5, none, none] ∧ Same H J ∧ J pb = some (.lst [V.ref a0, .ref a1]) ∧ W8 K M sh ⟨a0, p0, l0, w0, cs0, row0, g0, m0⟩ ⟨a1, p1, l1, w1, cs1, row1, g1, m1⟩ i (2 * i) J) (fun J r => ⟨_, _, _, rfl, sH4.trans r, r _ _ eb4, W0.same r⟩) ?_ ?_)
    · rintro i σ' J hi ⟨y2, y4, y5, rfl, sJ, bJ, WJ⟩
      have hi12 : i < 12 := by split at hi <;> omega
      have dJ := dp_same sJ _ _ hsd
      refine asgV (v := .int (cellAt ns (6 + i))) (ev_cell (k := 6 + i) (evd_var rfl dJ) (ev_var rfl)) fun J1 q1 => ?_
      generalize cellAt ns (6 + i) = c
      obtain ⟨v1, at1, hv1⟩ := pick8 (o1 := ⟨a0, p0, l0, w0, cs0, row0, g0, m0⟩) (o2 := ⟨a1, p1, l1, w1, cs1, row1, g1, m1⟩) (x := c % 2) (Int.emod_nonneg _ (by decide)) (by have := Int.emod_lt_of_pos c (show (0 : Int) < 2 by decide); omega)
      refine hold (ifNotCall2 (ev_ixAt (ev_var rfl) (q1 _ _ bJ) (ev_op (g := fun i j => V.int (i % j)) (ev_var rfl) ev_c (by decide)) at1) (ev_op (g := fun i j => V.int (i / j)) (ev_var rfl) ev_c ⟨by decide, by decide⟩) fun J3 q23 => ?_)
      refine (WJ.same (q1.trans q23)).take hv1 (c / 2) (by omega) fun J4 kp4 W4 => ⟨true, rfl, iteF ?_⟩
      have s3 := sJ.trans (q1.trans q23)
      have s4 := kp4.over s3 hMn
      have b4 := kp4 _ _ pbM' ((q1.trans q23) _ _ bJ)
      refine hold (asgV (v := .int (c / 3 % 2)) (ev_op (g := fun i j => V.int (i % j)) (ev_op (g := fun i j => V.int (i / j)) (ev_var rfl) ev_c ⟨by decide, by decide⟩) ev_c (by decide)) fun J5 q5 => ?_)
      have x0 : 0 ≤ c / 3 % 2 := Int.emod_nonneg _ (by decide)
      have x1 : c / 3 % 2 < 2 := Int.emod_lt_of_pos _ (by decide)
      obtain ⟨v2, at2, hv2⟩ := pick8 (o1 := ⟨a0, p0, l0, w0, cs0, row0, g0, m0⟩) (o2 := ⟨a1, p1, l1, w1, cs1, row1, g1, m1⟩) (x := c / 3 % 2) x0 (by omega)
      obtain ⟨v3, at3, hv3⟩ := pick8 (o1 := ⟨a0, p0, l0, w0, cs0, row0, g0, m0⟩) (o2 := ⟨a1, p1, l1, w1, cs1, row1, g1, m1⟩) (x := 1 - c / 3 % 2) (by omega) (by omega)
      refine hold (ifOrNot3 (ev_ixAt (ev_var rfl) (q5 _ _ b4) (ev_var rfl) at2) (ev_var rfl) (ev_op0 (g := fun i j => V.bl (decide (i < j))) (ev_op (g := fun i j => V.int (i % j)) (ev_var rfl) ev_c (by decide)) ev_c) fun J8 q8 => ?_)
      refine (W4.same (q5.trans q8)).seen hv2 _ (by omega) fun J9 kp9 W9 => ⟨true, rfl, iteF ?_⟩
      have q58 := q5.trans q8
      have s9 := kp9.over (s4.trans q58) hMn
      have b9 := kp9 _ _ pbM' (q58 _ _ b4)
      refine ifNot3 (ev_ixAt (ev_var rfl) b9 (ev_op0 (g := fun i j => V.int (i - j)) ev_c (ev_var rfl)) at3) (ev_var rfl) (ev_op0 (g := fun i j => V.bl (decide (i < j))) (ev_op (g := fun i j => V.int (i % j)) (ev_var rfl) ev_c (by decide)) ev_c) fun L3 z13 => ?_
      refine (W9.same z13).seen hv3 _ (by omega) fun L4 kpL WL => ⟨true, rfl, iteF ?_⟩
      exact ⟨_, _, _, rfl, kpL.over (s9.trans z13) hMn, kpL _ _ pbM' (z13 _ _ b9), WL⟩
    · rintro σ' J ⟨y2, y4, y5, rfl, sJ, bJ, WJ⟩
      obtain ⟨as1, as2, n1, n2, ys, I, h1, h2, h3⟩ := WJ
      have hT : (if (18 : Int) < (ns.length : Int) then (18 : Int) else (ns.length : Int)) ≤ 18 := by split <;> omega
      obtain ⟨va1, r1', t1', z1', ed1, _⟩ := I.b1.dic
      obtain ⟨va2, r2', t2', z2', ed2, _⟩ := I.b2.dic
      obtain ⟨xs1, ex1, px1, lx1⟩ := I.b1.sh
      obtain ⟨xs2, ex2, px2, lx2⟩ := I.b2.sh
      refine hold (asgT ?_)
      refine (evr_cat (evr_cat (evr_v (ev_var rfl) I.es) (evr_v (ev_dget (ev_ixAt (ev_var rfl) bJ ev_c rfl) ed1 kv_shown) ex1) (by omega)) (evr_v (ev_dget (ev_ixAt (ev_var rfl) bJ ev_c rfl) ed2 kv_shown) ex2) (by rw [List.length_append]; omega)) J _ (Same.refl _) fun r J1 q1 er => ?_
      have PX : Pairs K (imm M J1) (ys ++ xs1 ++ xs2) := (((I.ps.app px1).app px2)).same (imm_keep (Same.keep (M := []) q1) (fun _ z => nomatch z))
      refine hold (retT ?_)
      refine (ev_ixAt (ev_var rfl) (q1 _ _ bJ) ev_c rfl) J1 _ (Same.refl _) fun J2 q2 => ?_
      refine ⟨(by show 0 ≤ sizeLine; decide), fun sp np => ?_⟩
      have I2 := I.same (q1.trans q2)
      have sn := same_upd np (o := HO.lst [])
      have spM := I2.live.new np
      have B1 := I2.b1.more sn np
      have B2 := I2.b2.more sn np
      have liveN : Live (sp :: M) (upd J2 sp (.lst [])) := fun x hx => by
        rcases List.mem_cons.mp hx with h | h
        · rw [h]
          exact ⟨_, upd_same, nt_lst _⟩
        · obtain ⟨o, e, n⟩ := I2.live x h
          exact ⟨o, sn _ _ e, n⟩
      refine ⟨sp :: M, _, _, _, _, sp, [], true, _, _, _, _, _, _, rfl, B1, I.k1.hm, I.k1.pl, liveN, List.mem_cons_self, (fun z => spM (I.b1.ms sp z)), upd_same, .nil, Nat.zero_le _, fun q0 J3 kp e3 _ => ⟨true, rfl, iteT ?_⟩⟩
      have rsp : r ≠ sp := fun z => by
        rw [← z, q2 _ _ er] at np
        cases np
      have er3 : J3 r = some (.lst (ys ++ xs1 ++ xs2)) := kp _ _ (fun z => rsp (List.mem_singleton.mp z)) (sn _ _ (q2 _ _ er))
      have PX3 : Pairs K J3 (ys ++ xs1 ++ xs2) := (((PX.same (imm_keep (Same.keep (M := []) q2) (fun _ z => nomatch z))).same (imm_more (M := M) sn np)).same (imm_keep kp (fun x hx => by rw [List.mem_singleton.mp hx]; exact List.mem_cons_self))).same (imm_same _ _)
      refine EvV.run (v := .bl true) (EvV.is (ev_eqL (ns := []) (ms := []) (EvK.dat (EvO.k (evo_lcPairs (p := r) (ev_var rfl) (.inl (.inl er3)) PX3 (fun _ _ => rfl) (fun _ _ => rfl) (fun _ _ => rfl)))) (EvK.dat (EvO.k (evo_lst eds_nil (by show 0 ≤ 100000; omega))))) rfl) fun J4 _ => q J4
end

/-! ### what the top leaves -/
def dd (i : Nat) (x : Str) : He.DefD := ⟨(x, none), x, x, defArgs (topS i), defBody (topS i), defScope (topS i), [], []⟩
def dm (i j : Nat) (C x q : Str) : He.DefD := ⟨(C, some x), x, q, defArgs (inClass (topS i) j), defBody (inClass (topS i) j), defScope (inClass (topS i) j), [], []⟩
def fn : List He.DefD := [dd 8 "is_whole", dd 22 "_last_sign", dd 26 "parted", dd 27 "within", dd 31 "lengthened", dm 33 2 "Reader" "told" "Reader.told", dm 33 3 "Reader" "lacking" "Reader.lacking", dd 39 "_fewest", dd 40 "_first_number", dd 41 "_by_twos", dd 43 "_law_cell_at", dd 44 "_law_mixed", dd 45 "_law_whole", dd 47 "_law_behind", dd 50 "_law_within", dd 51 "_law_figured", dd 53 "_law_word", dd 54 "_law_no_plan", dd 9 "are_whole", dd 35 "_need_many", dd 37 "figures_in", dd 46 "_law_plan", dd 48 "_law_signs", dd 49 "_law_stretch", dd 52 "_law_certain", dd 59 "_law_lacks", dd 10 "is_whole_list", dd 17 "need_plan", dd 60 "_law_seen", dd 18 "need_signs", dd 21 "_need_sign", dd 30 "need_figures", dm 33 0 "Reader" "__init__" "Reader.__init__", dd 19 "share", dd 20 "behind", dd 29 "stepped", dd 34 "_sign_around", dd 55 "_law_refused", dd 28 "stretch_of", dm 33 4 "Reader" "_further" "Reader._further", dm 33 1 "Reader" "take" "Reader.take", dd 38 "pressed", dd 56 "_law_edge", dd 57 "_law_made", dd 58 "_law_take", dd 61 "law"]
def fa : List He.Fa := [.glo "is_whole", .glo "_last_sign", .glo "parted", .glo "within", .glo "lengthened", .glo "_fewest", .glo "_first_number", .glo "_by_twos", .glo "_law_cell_at", .glo "_law_mixed", .glo "_law_whole", .glo "_law_behind", .glo "_law_within", .glo "_law_figured", .glo "_law_word", .glo "_law_no_plan", .glo "are_whole", .glo "_need_many", .glo "figures_in", .glo "_law_plan", .glo "_law_signs", .glo "_law_stretch", .glo "_law_certain", .glo "_law_lacks", .glo "is_whole_list", .glo "need_plan", .glo "_law_seen", .glo "need_signs", .glo "_need_sign", .glo "need_figures", .glo "share", .glo "behind", .glo "stepped", .glo "_sign_around", .glo "_law_refused", .glo "stretch_of", .glo "pressed", .glo "_law_edge", .glo "_law_made", .glo "_law_take", .glo "law", .glo "PressError", .glo "BadPlan", .glo "BadSign", .glo "BadCount", .glo "BadFigures", .glo "Ended", .glo "Reader", .free "ValueError", .free "all", .free "bool", .free "int", .free "isinstance", .free "len", .free "list", .free "min", .free "range", .free "reversed", .free "sum", .free "tuple", .free "type", .glo "WHOLE", .int "FEWEST_COUNTS" 2, .int "GREATEST_COUNT" 1000000, .int "GREATEST_GAIN" 1000000, .int "LONGEST_TEXT" 60, .int "MOST_COUNTS" 8, .int "MOST_FIGURES" 4000, .cls "Reader", .mkr "Reader", .noat "Reader" "_many", .noat "Reader" "_signs", .noat "Reader" "_stretch", .noat "Reader" "_plan", .noat "Reader" "_taken", .noat "Reader" "_inner", .meth "Reader" "told", .meth "Reader" "lacking", .meth "Reader" "_further", .meth "Reader" "take"]
abbrev R : PySem.W.OpenRow := PySem.W.OpenLaw.row PySem.Challenge.rw_partline_k08_readers
abbrev exB (K : PySem.W.Frag) : Bool := errB K && He.tupB K "WHOLE" [.int 0, .int 1, .int 1]
abbrev hk : PySem.W.Hook := He.hookX 4 fa fn [] [] exB
def ob (s : PySem.W.SharedT) : He.AlX := He.obsX 4 fa fn [] [] exB (HandSHeadRun.getT s)
theorem ob_eq (s : PySem.W.SharedT) : ob s = hk.obs s.abs := He.obsX_eq (HandSHeadRun.getT_eq s)
def names : List Str := (["PressError", "BadPlan", "BadSign", "BadCount", "BadFigures", "Ended", "is_whole", "are_whole", "is_whole_list", "FEWEST_COUNTS", "MOST_COUNTS", "GREATEST_COUNT", "GREATEST_GAIN", "LONGEST_TEXT", "need_plan", "need_signs", "share", "behind", "_need_sign", "_last_sign"] : List Str) ++ (["WHOLE", "MOST_FIGURES", "parted", "within", "stretch_of", "stepped", "need_figures", "lengthened", "Reader", "_sign_around", "_need_many", "figures_in", "pressed", "_fewest", "_first_number", "_by_twos", "_law_cell_at", "_law_mixed", "_law_whole", "_law_plan"] : List Str) ++ (["_law_behind", "_law_signs", "_law_stretch", "_law_within", "_law_figured", "_law_certain", "_law_word", "_law_no_plan", "_law_refused", "_law_edge", "_law_made", "_law_take", "_law_lacks", "_law_seen"] : List Str)
theorem run (w : World) : HandSHeadRun.RunEq R (PySem.W.view R.prog [61]) hk ob 30000 names w := by
  intro os
  kernel_rfl
theorem facts {w : World} {K : PySem.W.Frag} {h : Heap} {mg : Str → Option Value} {f : Addr} (X : K.In h) (G : h.Ns mainGlobals mg) (hfa : mg ("law" : Str) = some (.ref f)) (c : He.SaysX fa fn [] [] exB w h K) :
    ∃ fd : FuncData, (∀ (s : Shared) (v : Value), BindsTo s fd ⟨[v], []⟩ [("_law_script", v)]) ∧ ∀ base : Heap, K.In base → base.Ns mainGlobals mg → FnOk PP w K mg base CX0 10 f fd ["_law_script"] (sp_law K) := by
  have cm : exB K = true := c.more
  have t_WHOLE : ∀ H : Hp, SqT K H (He.ga K "WHOLE") [.int 0, .int 1, .int 1] := fun H => He.tupB_ok (He.ba cm).2 H
  replace cm := (He.ba cm).1
  have T : ErrTop K := errB_ok cm
  have D : He.SaysD fa fn K := c.t.d
  obtain ⟨fd_is_whole, F_is_whole⟩ := D.def_ 0 (d := dd 8 "is_whole") rfl
  obtain ⟨fd__last_sign, F__last_sign⟩ := D.def_ 1 (d := dd 22 "_last_sign") rfl
  obtain ⟨fd_parted, F_parted⟩ := D.def_ 2 (d := dd 26 "parted") rfl
  obtain ⟨fd_within, F_within⟩ := D.def_ 3 (d := dd 27 "within") rfl
  obtain ⟨fd_lengthened, F_lengthened⟩ := D.def_ 4 (d := dd 31 "lengthened") rfl
  obtain ⟨fd_Reader_told, F_Reader_told⟩ := D.def_ 5 (d := dm 33 2 "Reader" "told" "Reader.told") rfl
  obtain ⟨fd_Reader_lacking, F_Reader_lacking⟩ := D.def_ 6 (d := dm 33 3 "Reader" "lacking" "Reader.lacking") rfl
  obtain ⟨fd__fewest, F__fewest⟩ := D.def_ 7 (d := dd 39 "_fewest") rfl
  obtain ⟨fd__first_number, F__first_number⟩ := D.def_ 8 (d := dd 40 "_first_number") rfl
  obtain ⟨fd__by_twos, F__by_twos⟩ := D.def_ 9 (d := dd 41 "_by_twos") rfl
  obtain ⟨fd__law_cell_at, F__law_cell_at⟩ := D.def_ 10 (d := dd 43 "_law_cell_at") rfl
  obtain ⟨fd__law_mixed, F__law_mixed⟩ := D.def_ 11 (d := dd 44 "_law_mixed") rfl
  obtain ⟨fd__law_whole, F__law_whole⟩ := D.def_ 12 (d := dd 45 "_law_whole") rfl
  obtain ⟨fd__law_behind, F__law_behind⟩ := D.def_ 13 (d := dd 47 "_law_behind") rfl
  obtain ⟨fd__law_within, F__law_within⟩ := D.def_ 14 (d := dd 50 "_law_within") rfl
  obtain ⟨fd__law_figured, F__law_figured⟩ := D.def_ 15 (d := dd 51 "_law_figured") rfl
  obtain ⟨fd__law_word, F__law_word⟩ := D.def_ 16 (d := dd 53 "_law_word") rfl
  obtain ⟨fd__law_no_plan, F__law_no_plan⟩ := D.def_ 17 (d := dd 54 "_law_no_plan") rfl
  obtain ⟨fd_are_whole, F_are_whole⟩ := D.def_ 18 (d := dd 9 "are_whole") rfl
  obtain ⟨fd__need_many, F__need_many⟩ := D.def_ 19 (d := dd 35 "_need_many") rfl
  obtain ⟨fd_figures_in, F_figures_in⟩ := D.def_ 20 (d := dd 37 "figures_in") rfl
  obtain ⟨fd__law_plan, F__law_plan⟩ := D.def_ 21 (d := dd 46 "_law_plan") rfl
  obtain ⟨fd__law_signs, F__law_signs⟩ := D.def_ 22 (d := dd 48 "_law_signs") rfl
  obtain ⟨fd__law_stretch, F__law_stretch⟩ := D.def_ 23 (d := dd 49 "_law_stretch") rfl
  obtain ⟨fd__law_certain, F__law_certain⟩ := D.def_ 24 (d := dd 52 "_law_certain") rfl
  obtain ⟨fd__law_lacks, F__law_lacks⟩ := D.def_ 25 (d := dd 59 "_law_lacks") rfl
  obtain ⟨fd_is_whole_list, F_is_whole_list⟩ := D.def_ 26 (d := dd 10 "is_whole_list") rfl
  obtain ⟨fd_need_plan, F_need_plan⟩ := D.def_ 27 (d := dd 17 "need_plan") rfl
  obtain ⟨fd__law_seen, F__law_seen⟩ := D.def_ 28 (d := dd 60 "_law_seen") rfl
  obtain ⟨fd_need_signs, F_need_signs⟩ := D.def_ 29 (d := dd 18 "need_signs") rfl
  obtain ⟨fd__need_sign, F__need_sign⟩ := D.def_ 30 (d := dd 21 "_need_sign") rfl
  obtain ⟨fd_need_figures, F_need_figures⟩ := D.def_ 31 (d := dd 30 "need_figures") rfl
  obtain ⟨fd_Reader___init__, F_Reader___init__⟩ := D.def_ 32 (d := dm 33 0 "Reader" "__init__" "Reader.__init__") rfl
  obtain ⟨fd_share, F_share⟩ := D.def_ 33 (d := dd 19 "share") rfl
  obtain ⟨fd_behind, F_behind⟩ := D.def_ 34 (d := dd 20 "behind") rfl
  obtain ⟨fd_stepped, F_stepped⟩ := D.def_ 35 (d := dd 29 "stepped") rfl
  obtain ⟨fd__sign_around, F__sign_around⟩ := D.def_ 36 (d := dd 34 "_sign_around") rfl
  obtain ⟨fd__law_refused, F__law_refused⟩ := D.def_ 37 (d := dd 55 "_law_refused") rfl
  obtain ⟨fd_stretch_of, F_stretch_of⟩ := D.def_ 38 (d := dd 28 "stretch_of") rfl
  obtain ⟨fd_Reader__further, F_Reader__further⟩ := D.def_ 39 (d := dm 33 4 "Reader" "_further" "Reader._further") rfl
  obtain ⟨fd_Reader_take, F_Reader_take⟩ := D.def_ 40 (d := dm 33 1 "Reader" "take" "Reader.take") rfl
  obtain ⟨fd_pressed, F_pressed⟩ := D.def_ 41 (d := dd 38 "pressed") rfl
  obtain ⟨fd__law_edge, F__law_edge⟩ := D.def_ 42 (d := dd 56 "_law_edge") rfl
  obtain ⟨fd__law_made, F__law_made⟩ := D.def_ 43 (d := dd 57 "_law_made") rfl
  obtain ⟨fd__law_take, F__law_take⟩ := D.def_ 44 (d := dd 58 "_law_take") rfl
  obtain ⟨fd_law, F_law⟩ := D.def_ 45 (d := dd 61 "law") rfl
  have g_is_whole := He.glo_ok X G (D.fact 0 (f := .glo "is_whole") rfl)
  have g__last_sign := He.glo_ok X G (D.fact 1 (f := .glo "_last_sign") rfl)
  have g_parted := He.glo_ok X G (D.fact 2 (f := .glo "parted") rfl)
  have g_within := He.glo_ok X G (D.fact 3 (f := .glo "within") rfl)
  have g_lengthened := He.glo_ok X G (D.fact 4 (f := .glo "lengthened") rfl)
  have g__fewest := He.glo_ok X G (D.fact 5 (f := .glo "_fewest") rfl)
  have g__first_number := He.glo_ok X G (D.fact 6 (f := .glo "_first_number") rfl)
  have g__by_twos := He.glo_ok X G (D.fact 7 (f := .glo "_by_twos") rfl)
  have g__law_cell_at := He.glo_ok X G (D.fact 8 (f := .glo "_law_cell_at") rfl)
  have g__law_mixed := He.glo_ok X G (D.fact 9 (f := .glo "_law_mixed") rfl)
  have g__law_whole := He.glo_ok X G (D.fact 10 (f := .glo "_law_whole") rfl)
  have g__law_behind := He.glo_ok X G (D.fact 11 (f := .glo "_law_behind") rfl)
  have g__law_within := He.glo_ok X G (D.fact 12 (f := .glo "_law_within") rfl)
  have g__law_figured := He.glo_ok X G (D.fact 13 (f := .glo "_law_figured") rfl)
  have g__law_word := He.glo_ok X G (D.fact 14 (f := .glo "_law_word") rfl)
  have g__law_no_plan := He.glo_ok X G (D.fact 15 (f := .glo "_law_no_plan") rfl)
  have g_are_whole := He.glo_ok X G (D.fact 16 (f := .glo "are_whole") rfl)
  have g__need_many := He.glo_ok X G (D.fact 17 (f := .glo "_need_many") rfl)
  have g_figures_in := He.glo_ok X G (D.fact 18 (f := .glo "figures_in") rfl)
  have g__law_plan := He.glo_ok X G (D.fact 19 (f := .glo "_law_plan") rfl)
  have g__law_signs := He.glo_ok X G (D.fact 20 (f := .glo "_law_signs") rfl)
  have g__law_stretch := He.glo_ok X G (D.fact 21 (f := .glo "_law_stretch") rfl)
  have g__law_certain := He.glo_ok X G (D.fact 22 (f := .glo "_law_certain") rfl)
  have g__law_lacks := He.glo_ok X G (D.fact 23 (f := .glo "_law_lacks") rfl)
  have g_is_whole_list := He.glo_ok X G (D.fact 24 (f := .glo "is_whole_list") rfl)
  have g_need_plan := He.glo_ok X G (D.fact 25 (f := .glo "need_plan") rfl)
  have g__law_seen := He.glo_ok X G (D.fact 26 (f := .glo "_law_seen") rfl)
  have g_need_signs := He.glo_ok X G (D.fact 27 (f := .glo "need_signs") rfl)
  have g__need_sign := He.glo_ok X G (D.fact 28 (f := .glo "_need_sign") rfl)
  have g_need_figures := He.glo_ok X G (D.fact 29 (f := .glo "need_figures") rfl)
  have g_share := He.glo_ok X G (D.fact 30 (f := .glo "share") rfl)
  have g_behind := He.glo_ok X G (D.fact 31 (f := .glo "behind") rfl)
  have g_stepped := He.glo_ok X G (D.fact 32 (f := .glo "stepped") rfl)
  have g__sign_around := He.glo_ok X G (D.fact 33 (f := .glo "_sign_around") rfl)
  have g__law_refused := He.glo_ok X G (D.fact 34 (f := .glo "_law_refused") rfl)
  have g_stretch_of := He.glo_ok X G (D.fact 35 (f := .glo "stretch_of") rfl)
  have g_pressed := He.glo_ok X G (D.fact 36 (f := .glo "pressed") rfl)
  have g__law_edge := He.glo_ok X G (D.fact 37 (f := .glo "_law_edge") rfl)
  have g__law_made := He.glo_ok X G (D.fact 38 (f := .glo "_law_made") rfl)
  have g__law_take := He.glo_ok X G (D.fact 39 (f := .glo "_law_take") rfl)
  have g_law := He.glo_ok X G (D.fact 40 (f := .glo "law") rfl)
  have g_PressError := He.glo_ok X G (D.fact 41 (f := .glo "PressError") rfl)
  have g_BadPlan := He.glo_ok X G (D.fact 42 (f := .glo "BadPlan") rfl)
  have g_BadSign := He.glo_ok X G (D.fact 43 (f := .glo "BadSign") rfl)
  have g_BadCount := He.glo_ok X G (D.fact 44 (f := .glo "BadCount") rfl)
  have g_BadFigures := He.glo_ok X G (D.fact 45 (f := .glo "BadFigures") rfl)
  have g_Ended := He.glo_ok X G (D.fact 46 (f := .glo "Ended") rfl)
  have g_Reader := He.glo_ok X G (D.fact 47 (f := .glo "Reader") rfl)
  have z_ValueError := He.free_ok X G (D.fact 48 (f := .free "ValueError") rfl)
  have z_all := He.free_ok X G (D.fact 49 (f := .free "all") rfl)
  have z_bool := He.free_ok X G (D.fact 50 (f := .free "bool") rfl)
  have z_int := He.free_ok X G (D.fact 51 (f := .free "int") rfl)
  have z_isinstance := He.free_ok X G (D.fact 52 (f := .free "isinstance") rfl)
  have z_len := He.free_ok X G (D.fact 53 (f := .free "len") rfl)
  have z_list := He.free_ok X G (D.fact 54 (f := .free "list") rfl)
  have z_min := He.free_ok X G (D.fact 55 (f := .free "min") rfl)
  have z_range := He.free_ok X G (D.fact 56 (f := .free "range") rfl)
  have z_reversed := He.free_ok X G (D.fact 57 (f := .free "reversed") rfl)
  have z_sum := He.free_ok X G (D.fact 58 (f := .free "sum") rfl)
  have z_tuple := He.free_ok X G (D.fact 59 (f := .free "tuple") rfl)
  have z_type := He.free_ok X G (D.fact 60 (f := .free "type") rfl)
  have g_WHOLE := He.glo_ok X G (D.fact 61 (f := .glo "WHOLE") rfl)
  obtain ⟨u_FEWEST_COUNTS, g_FEWEST_COUNTS⟩ := He.int_ok X G (D.fact 62 (f := .int "FEWEST_COUNTS" 2) rfl)
  obtain ⟨u_GREATEST_COUNT, g_GREATEST_COUNT⟩ := He.int_ok X G (D.fact 63 (f := .int "GREATEST_COUNT" 1000000) rfl)
  obtain ⟨u_GREATEST_GAIN, g_GREATEST_GAIN⟩ := He.int_ok X G (D.fact 64 (f := .int "GREATEST_GAIN" 1000000) rfl)
  obtain ⟨u_LONGEST_TEXT, g_LONGEST_TEXT⟩ := He.int_ok X G (D.fact 65 (f := .int "LONGEST_TEXT" 60) rfl)
  obtain ⟨u_MOST_COUNTS, g_MOST_COUNTS⟩ := He.int_ok X G (D.fact 66 (f := .int "MOST_COUNTS" 8) rfl)
  obtain ⟨u_MOST_FIGURES, g_MOST_FIGURES⟩ := He.int_ok X G (D.fact 67 (f := .int "MOST_FIGURES" 4000) rfl)
  have cl_Reader := He.cls_ok (D.fact 68 (f := .cls "Reader") rfl)
  have mk_Reader := He.mkr_ok (D.fact 69 (f := .mkr "Reader") rfl)
  have na_Reader__many := He.noat_ok (D.fact 70 (f := .noat "Reader" "_many") rfl)
  have na_Reader__signs := He.noat_ok (D.fact 71 (f := .noat "Reader" "_signs") rfl)
  have na_Reader__stretch := He.noat_ok (D.fact 72 (f := .noat "Reader" "_stretch") rfl)
  have na_Reader__plan := He.noat_ok (D.fact 73 (f := .noat "Reader" "_plan") rfl)
  have na_Reader__taken := He.noat_ok (D.fact 74 (f := .noat "Reader" "_taken") rfl)
  have na_Reader__inner := He.noat_ok (D.fact 75 (f := .noat "Reader" "_inner") rfl)
  have me_Reader_told := He.meth_ok (D.fact 76 (f := .meth "Reader" "told") rfl)
  have me_Reader_lacking := He.meth_ok (D.fact 77 (f := .meth "Reader" "lacking") rfl)
  have me_Reader__further := He.meth_ok (D.fact 78 (f := .meth "Reader" "_further") rfl)
  have me_Reader_take := He.meth_ok (D.fact 79 (f := .meth "Reader" "take") rfl)
  have T_Reader : ClsT K (He.ga K "Reader") rdN := ⟨cl_Reader, fun f hf => by
    simp only [rdN, List.mem_cons, List.not_mem_nil, or_false] at hf
    rcases hf with rfl | rfl | rfl | rfl | rfl | rfl
    · exact na_Reader__many
    · exact na_Reader__signs
    · exact na_Reader__stretch
    · exact na_Reader__plan
    · exact na_Reader__taken
    · exact na_Reader__inner⟩
  have x_BadPlan : Exn K mg .plan := ⟨(T.raise .plan).1, g_BadPlan, (T.raise .plan).2.1, (T.raise .plan).2.2.1, (T.raise .plan).2.2.2⟩
  have x_BadSign : Exn K mg .sign := ⟨(T.raise .sign).1, g_BadSign, (T.raise .sign).2.1, (T.raise .sign).2.2.1, (T.raise .sign).2.2.2⟩
  have x_BadCount : Exn K mg .count := ⟨(T.raise .count).1, g_BadCount, (T.raise .count).2.1, (T.raise .count).2.2.1, (T.raise .count).2.2.2⟩
  have x_BadFigures : Exn K mg .figures := ⟨(T.raise .figures).1, g_BadFigures, (T.raise .figures).2.1, (T.raise .figures).2.2.1, (T.raise .figures).2.2.2⟩
  have x_Ended : Exn K mg .ended := ⟨(T.raise .ended).1, g_Ended, (T.raise .ended).2.1, (T.raise .ended).2.2.1, (T.raise .ended).2.2.2⟩
  have e := hfa.symm.trans g_law
  cases e
  have b := FunD.bindsA (ps := ["_law_script"]) F_law fun _ _ _ _ _ _ us hl => match us, hl with | [_], _ => rfl
  refine ⟨fd_law, fun s v => b s [v] rfl, fun base _ _ => ?_⟩
  have c_is_whole : Cal PP w K mg base CX0 1 "is_whole" ["value", "least", "most"] (sp_is_whole K) := ⟨He.ga K "is_whole", fd_is_whole, ok_is_whole (F := F_is_whole) (z_type := z_type) (z_int := z_int), g_is_whole, F_is_whole.kp, F_is_whole.bindsN fun _ _ _ _ _ _ us hl => match us, hl with | [_, _, _], _ => rfl⟩
  have c__last_sign : Cal PP w K mg base CX0 1 "_last_sign" ["plan"] (sp_last_sign K) := ⟨He.ga K "_last_sign", fd__last_sign, ok_last_sign (F := F__last_sign) (z_len := z_len), g__last_sign, F__last_sign.kp, F__last_sign.bindsN fun _ _ _ _ _ _ us hl => match us, hl with | [_], _ => rfl⟩
  have c_parted : Cal PP w K mg base CX0 1 "parted" ["stretch", "one"] (sp_parted K) := ⟨He.ga K "parted", fd_parted, ok_parted (F := F_parted), g_parted, F_parted.kp, F_parted.bindsN fun _ _ _ _ _ _ us hl => match us, hl with | [_, _], _ => rfl⟩
  have c_within : Cal PP w K mg base CX0 1 "within" ["one", "other"] (sp_within K) := ⟨He.ga K "within", fd_within, ok_within (F := F_within), g_within, F_within.kp, F_within.bindsN fun _ _ _ _ _ _ us hl => match us, hl with | [_, _], _ => rfl⟩
  have c_lengthened : Cal PP w K mg base CX0 1 "lengthened" ["stretch", "figures"] (sp_lengthened K) := ⟨He.ga K "lengthened", fd_lengthened, ok_lengthened (F := F_lengthened), g_lengthened, F_lengthened.kp, F_lengthened.bindsN fun _ _ _ _ _ _ us hl => match us, hl with | [_, _], _ => rfl⟩
  have c_Reader_told : MCal PP w K mg base CX0 (He.ga K "Reader") 1 "told" ["self"] (sp_rtold K) := ⟨He.ma K (He.ga K "Reader") "told", fd_Reader_told, ok_rtold (F := F_Reader_told) (T_Reader := T_Reader) (z_list := z_list), me_Reader_told, F_Reader_told.bindsN fun _ _ _ _ _ _ us hl => match us, hl with | [_], _ => rfl⟩
  have c_Reader_lacking : MCal PP w K mg base CX0 (He.ga K "Reader") 1 "lacking" ["self"] (sp_lacking K) := ⟨He.ma K (He.ga K "Reader") "lacking", fd_Reader_lacking, ok_lacking (F := F_Reader_lacking) (T_Reader := T_Reader) (z_len := z_len), me_Reader_lacking, F_Reader_lacking.bindsN fun _ _ _ _ _ _ us hl => match us, hl with | [_], _ => rfl⟩
  have c__fewest : Cal PP w K mg base CX0 1 "_fewest" ["stretch"] (sp_fewest K) := ⟨He.ga K "_fewest", fd__fewest, ok_fewest (F := F__fewest), g__fewest, F__fewest.kp, F__fewest.bindsN fun _ _ _ _ _ _ us hl => match us, hl with | [_], _ => rfl⟩
  have c__first_number : Cal PP w K mg base CX0 1 "_first_number" ["stretch", "many"] (sp_first K) := ⟨He.ga K "_first_number", fd__first_number, ok_first (F := F__first_number), g__first_number, F__first_number.kp, F__first_number.bindsN fun _ _ _ _ _ _ us hl => match us, hl with | [_, _], _ => rfl⟩
  have c__by_twos : Cal PP w K mg base CX0 1 "_by_twos" ["number", "many"] (sp_by_twos K) := ⟨He.ga K "_by_twos", fd__by_twos, ok_by_twos (F := F__by_twos) (z_range := z_range) (z_reversed := z_reversed), g__by_twos, F__by_twos.kp, F__by_twos.bindsN fun _ _ _ _ _ _ us hl => match us, hl with | [_, _], _ => rfl⟩
  have c__law_cell_at : Cal PP w K mg base CX0 1 "_law_cell_at" ["_law_script", "_law_k"] (sp_cell_at K) := ⟨He.ga K "_law_cell_at", fd__law_cell_at, ok_cell_at (F := F__law_cell_at) (z_len := z_len), g__law_cell_at, F__law_cell_at.kp, F__law_cell_at.bindsN fun _ _ _ _ _ _ us hl => match us, hl with | [_, _], _ => rfl⟩
  have c__law_mixed : Cal PP w K mg base CX0 1 "_law_mixed" ["_law_cell", "_law_k"] (sp_mixed) := ⟨He.ga K "_law_mixed", fd__law_mixed, ok_mixed (F := F__law_mixed), g__law_mixed, F__law_mixed.kp, F__law_mixed.bindsN fun _ _ _ _ _ _ us hl => match us, hl with | [_, _], _ => rfl⟩
  have c__law_whole : Cal PP w K mg base CX0 1 "_law_whole" ["_law_found"] (sp_whole K) := ⟨He.ga K "_law_whole", fd__law_whole, ok_whole (F := F__law_whole) (z_isinstance := z_isinstance) (z_int := z_int) (z_bool := z_bool), g__law_whole, F__law_whole.kp, F__law_whole.bindsN fun _ _ _ _ _ _ us hl => match us, hl with | [_], _ => rfl⟩
  have c__law_behind : Cal PP w K mg base CX0 1 "_law_behind" ["_law_plan_here", "_law_sign"] (sp_lbehind K) := ⟨He.ga K "_law_behind", fd__law_behind, ok_lbehind (F := F__law_behind) (z_list := z_list) (z_min := z_min) (z_tuple := z_tuple), g__law_behind, F__law_behind.kp, F__law_behind.bindsN fun _ _ _ _ _ _ us hl => match us, hl with | [_, _], _ => rfl⟩
  have c__law_within : Cal PP w K mg base CX0 1 "_law_within" ["_law_one", "_law_other"] (sp_within K) := ⟨He.ga K "_law_within", fd__law_within, ok_lwithin (F := F__law_within), g__law_within, F__law_within.kp, F__law_within.bindsN fun _ _ _ _ _ _ us hl => match us, hl with | [_, _], _ => rfl⟩
  have c__law_figured : Cal PP w K mg base CX0 1 "_law_figured" ["_law_figures"] (sp_lfigured K) := ⟨He.ga K "_law_figured", fd__law_figured, ok_lfigured (F := F__law_figured), g__law_figured, F__law_figured.kp, F__law_figured.bindsN fun _ _ _ _ _ _ us hl => match us, hl with | [_], _ => rfl⟩
  have q__law_word : FnZ PP w K mg base 1 (He.ga K "_law_word") fd__law_word ["_law_e"] (sp_word K) := ok_word (F := F__law_word) (T := T) (g_BadPlan := g_BadPlan) (g_BadSign := g_BadSign) (g_BadCount := g_BadCount) (g_BadFigures := g_BadFigures) (g_Ended := g_Ended) (z_isinstance := z_isinstance) (z_int := z_int) (z_ValueError := z_ValueError)
  have b__law_word : Binds K fd__law_word ["_law_e"] [] := F__law_word.bindsN fun _ _ _ _ _ _ us hl => match us, hl with | [_], _ => rfl
  have c__law_no_plan : Cal PP w K mg base CX0 1 "_law_no_plan" ["_law_plan_here", "_law_cell"] (sp_no_plan K) := ⟨He.ga K "_law_no_plan", fd__law_no_plan, ok_no_plan (F := F__law_no_plan) (z_len := z_len) (z_list := z_list), g__law_no_plan, F__law_no_plan.kp, F__law_no_plan.bindsN fun _ _ _ _ _ _ us hl => match us, hl with | [_, _], _ => rfl⟩
  have c_are_whole : Cal PP w K mg base CX0 2 "are_whole" ["values", "least", "most"] (sp_are_whole K) := ⟨He.ga K "are_whole", fd_are_whole, ok_are_whole (F := F_are_whole) (c_is_whole := c_is_whole) (z_all := z_all), g_are_whole, F_are_whole.kp, F_are_whole.bindsN fun _ _ _ _ _ _ us hl => match us, hl with | [_, _, _], _ => rfl⟩
  have c__need_many : Cal PP w K mg base (L2N.CX PP w) 2 "_need_many" ["many"] (sp_need_many K) := ⟨He.ga K "_need_many", fd__need_many, ok_need_many (F := F__need_many) (c_is_whole := c_is_whole) (x_BadCount := x_BadCount) (g_LONGEST_TEXT := g_LONGEST_TEXT), g__need_many, F__need_many.kp, F__need_many.bindsN fun _ _ _ _ _ _ us hl => match us, hl with | [_], _ => rfl⟩
  have c_figures_in : Cal PP w K mg base CX0 2 "figures_in" ["stretch"] (sp_figures_in K) := ⟨He.ga K "figures_in", fd_figures_in, ok_figures_in (F := F_figures_in) (c__fewest := c__fewest) (c__first_number := c__first_number) (c__by_twos := c__by_twos) (c_within := c_within), g_figures_in, F_figures_in.kp, F_figures_in.bindsN fun _ _ _ _ _ _ us hl => match us, hl with | [_], _ => rfl⟩
  have c__law_plan : Cal PP w K mg base CX0 2 "_law_plan" ["_law_cell"] (sp_plan K) := ⟨He.ga K "_law_plan", fd__law_plan, ok_plan (F := F__law_plan) (c__law_mixed := c__law_mixed) (z_range := z_range) (z_len := z_len) (z_tuple := z_tuple), g__law_plan, F__law_plan.kp, F__law_plan.bindsN fun _ _ _ _ _ _ us hl => match us, hl with | [_], _ => rfl⟩
  have c__law_signs : Cal PP w K mg base CX0 2 "_law_signs" ["_law_cell", "_law_plan_here", "_law_most"] (sp_signs K) := ⟨He.ga K "_law_signs", fd__law_signs, ok_signs (F := F__law_signs) (c__law_mixed := c__law_mixed) (z_range := z_range) (z_len := z_len), g__law_signs, F__law_signs.kp, F__law_signs.bindsN fun _ _ _ _ _ _ us hl => match us, hl with | [_, _, _], _ => rfl⟩
  have c__law_stretch : Cal PP w K mg base CX0 2 "_law_stretch" ["_law_plan_here", "_law_signs_here"] (sp_lstretch K) := ⟨He.ga K "_law_stretch", fd__law_stretch, ok_lstretch (F := F__law_stretch) (c__law_behind := c__law_behind) (z_sum := z_sum), g__law_stretch, F__law_stretch.kp, F__law_stretch.bindsN fun _ _ _ _ _ _ us hl => match us, hl with | [_, _], _ => rfl⟩
  have c__law_certain : Cal PP w K mg base CX0 2 "_law_certain" ["_law_plan_here", "_law_many", "_law_figures"] (sp_lcertain K) := ⟨He.ga K "_law_certain", fd__law_certain, ok_lcertain (F := F__law_certain) (c__law_figured := c__law_figured) (c__law_within := c__law_within) (c__law_behind := c__law_behind) (z_len := z_len) (z_sum := z_sum) (z_range := z_range), g__law_certain, F__law_certain.kp, F__law_certain.bindsN fun _ _ _ _ _ _ us hl => match us, hl with | [_, _, _], _ => rfl⟩
  have c__law_lacks : Cal PP w K mg base CX0 2 "_law_lacks" ["_law_one"] (sp_lacks8 K) := ⟨He.ga K "_law_lacks", fd__law_lacks, ok_lacks8 (F := F__law_lacks) (T_Reader := T_Reader) (c_Reader_lacking := c_Reader_lacking) (c__law_whole := c__law_whole) (z_len := z_len), g__law_lacks, F__law_lacks.kp, F__law_lacks.bindsN fun _ _ _ _ _ _ us hl => match us, hl with | [_], _ => rfl⟩
  have c_is_whole_list : Cal PP w K mg base CX0 3 "is_whole_list" ["values", "longest", "least", "most"] (sp_is_whole_list K) := ⟨He.ga K "is_whole_list", fd_is_whole_list, ok_is_whole_list (F := F_is_whole_list) (c_are_whole := c_are_whole) (z_type := z_type) (z_list := z_list) (z_len := z_len), g_is_whole_list, F_is_whole_list.kp, F_is_whole_list.bindsN fun _ _ _ _ _ _ us hl => match us, hl with | [_, _, _, _], _ => rfl⟩
  have c_need_plan : Cal PP w K mg base (L2N.CX PP w) 3 "need_plan" ["plan"] (sp_need_plan K) := ⟨He.ga K "need_plan", fd_need_plan, ok_need_plan (F := F_need_plan) (c_is_whole := c_is_whole) (c_are_whole := c_are_whole) (x_BadPlan := x_BadPlan) (z_type := z_type) (z_tuple := z_tuple) (z_len := z_len) (g_FEWEST_COUNTS := g_FEWEST_COUNTS) (g_MOST_COUNTS := g_MOST_COUNTS) (g_GREATEST_COUNT := g_GREATEST_COUNT) (g_GREATEST_GAIN := g_GREATEST_GAIN), g_need_plan, F_need_plan.kp, F_need_plan.bindsN fun _ _ _ _ _ _ us hl => match us, hl with | [_], _ => rfl⟩
  have c__law_seen : Cal PP w K mg base CX0 3 "_law_seen" ["_law_one", "_law_shown", "_law_is_turned"] (sp_seen8 K) := ⟨He.ga K "_law_seen", fd__law_seen, ok_seen8 (F := F__law_seen) (T_Reader := T_Reader) (c__law_lacks := c__law_lacks) (c_Reader_told := c_Reader_told) (c__law_whole := c__law_whole) (z_list := z_list) (z_isinstance := z_isinstance) (z_all := z_all), g__law_seen, F__law_seen.kp, F__law_seen.bindsN fun _ _ _ _ _ _ us hl => match us, hl with | [_, _, _], _ => rfl⟩
  have c_need_signs : Cal PP w K mg base (L2N.CX PP w) 4 "need_signs" ["plan", "signs"] (sp_need_signs K) := ⟨He.ga K "need_signs", fd_need_signs, ok_need_signs (F := F_need_signs) (c_need_plan := c_need_plan) (c_is_whole_list := c_is_whole_list) (c__last_sign := c__last_sign) (x_BadSign := x_BadSign) (g_LONGEST_TEXT := g_LONGEST_TEXT), g_need_signs, F_need_signs.kp, F_need_signs.bindsN fun _ _ _ _ _ _ us hl => match us, hl with | [_, _], _ => rfl⟩
  have c__need_sign : Cal PP w K mg base (L2N.CX PP w) 4 "_need_sign" ["plan", "sign"] (sp_need_sign K) := ⟨He.ga K "_need_sign", fd__need_sign, ok_need_sign (F := F__need_sign) (c_need_plan := c_need_plan) (c_is_whole := c_is_whole) (c__last_sign := c__last_sign) (x_BadSign := x_BadSign), g__need_sign, F__need_sign.kp, F__need_sign.bindsN fun _ _ _ _ _ _ us hl => match us, hl with | [_, _], _ => rfl⟩
  have c_need_figures : Cal PP w K mg base (L2N.CX PP w) 4 "need_figures" ["figures"] (sp_need_figures K) := ⟨He.ga K "need_figures", fd_need_figures, ok_need_figures (F := F_need_figures) (c_is_whole_list := c_is_whole_list) (x_BadFigures := x_BadFigures) (g_MOST_FIGURES := g_MOST_FIGURES), g_need_figures, F_need_figures.kp, F_need_figures.bindsN fun _ _ _ _ _ _ us hl => match us, hl with | [_], _ => rfl⟩
  have c_Reader___init__ : ICal PP w K mg base (L2N.CX PP w) (He.ga K "Reader") 4 ["self", "plan", "many"] (sp_rinit K) := ⟨He.ma K (He.ga K "Reader") "__init__", fd_Reader___init__, ok_rinit (F := F_Reader___init__) (T_Reader := T_Reader) (c_need_plan := c_need_plan) (c__need_many := c__need_many) (g_WHOLE := g_WHOLE) (t_WHOLE := t_WHOLE), mk_Reader, F_Reader___init__.bindsN fun _ _ _ _ _ _ us hl => match us, hl with | [_, _, _], _ => rfl⟩
  have c_share : Cal PP w K mg base (L2N.CX PP w) 5 "share" ["plan", "sign"] (sp_share K) := ⟨He.ga K "share", fd_share, ok_share (F := F_share) (c__need_sign := c__need_sign) (z_sum := z_sum), g_share, F_share.kp, F_share.bindsN fun _ _ _ _ _ _ us hl => match us, hl with | [_, _], _ => rfl⟩
  have c_behind : Cal PP w K mg base (L2N.CX PP w) 5 "behind" ["plan", "sign"] (sp_behind K) := ⟨He.ga K "behind", fd_behind, ok_behind (F := F_behind) (c__need_sign := c__need_sign) (z_min := z_min) (g_GREATEST_COUNT := g_GREATEST_COUNT), g_behind, F_behind.kp, F_behind.bindsN fun _ _ _ _ _ _ us hl => match us, hl with | [_, _], _ => rfl⟩
  have c_stepped : Cal PP w K mg base CX0 6 "stepped" ["stretch", "plan", "sign"] (sp_stepped K) := ⟨He.ga K "stepped", fd_stepped, ok_stepped (F := F_stepped) (c_parted := c_parted) (c_share := c_share) (c_behind := c_behind), g_stepped, F_stepped.kp, F_stepped.bindsN fun _ _ _ _ _ _ us hl => match us, hl with | [_, _, _], _ => rfl⟩
  have c__sign_around : Cal PP w K mg base CX0 6 "_sign_around" ["inner", "stretch", "plan"] (sp_sign_around K) := ⟨He.ga K "_sign_around", fd__sign_around, ok_sign_around (F := F__sign_around) (c_within := c_within) (c_parted := c_parted) (c_share := c_share) (z_len := z_len) (z_range := z_range), g__sign_around, F__sign_around.kp, F__sign_around.bindsN fun _ _ _ _ _ _ us hl => match us, hl with | [_, _, _], _ => rfl⟩
  have c__law_refused : Cal PP w K mg base CX0 6 "_law_refused" ["_law_plan_here", "_law_cell"] (sp_refused8 K) := ⟨He.ga K "_law_refused", fd__law_refused, ok_refused8 (F := F__law_refused) (T := T) (F__law_word := q__law_word) (g__law_word := g__law_word) (k__law_word := F__law_word.kp) (b__law_word := b__law_word) (g_PressError := g_PressError) (c__law_no_plan := c__law_no_plan) (c_Reader___init__ := c_Reader___init__) (g_Reader := g_Reader), g__law_refused, F__law_refused.kp, F__law_refused.bindsN fun _ _ _ _ _ _ us hl => match us, hl with | [_, _], _ => rfl⟩
  have c_stretch_of : Cal PP w K mg base (L2N.CX PP w) 7 "stretch_of" ["plan", "signs"] (sp_stretch_of K) := ⟨He.ga K "stretch_of", fd_stretch_of, ok_stretch_of (F := F_stretch_of) (c_need_signs := c_need_signs) (c_stepped := c_stepped) (g_WHOLE := g_WHOLE) (t_WHOLE := t_WHOLE), g_stretch_of, F_stretch_of.kp, F_stretch_of.bindsN fun _ _ _ _ _ _ us hl => match us, hl with | [_, _], _ => rfl⟩
  have c_Reader__further : MCal PP w K mg base CX0 (He.ga K "Reader") 7 "_further" ["self"] (sp_further K) := ⟨He.ma K (He.ga K "Reader") "_further", fd_Reader__further, ok_further (F := F_Reader__further) (T_Reader := T_Reader) (c_Reader_lacking := c_Reader_lacking) (c__sign_around := c__sign_around) (c_stepped := c_stepped), me_Reader__further, F_Reader__further.bindsN fun _ _ _ _ _ _ us hl => match us, hl with | [_], _ => rfl⟩
  have c_Reader_take : MCal PP w K mg base (L2N.CX PP w) (He.ga K "Reader") 8 "take" ["self", "figures"] (sp_rtake K) := ⟨He.ma K (He.ga K "Reader") "take", fd_Reader_take, ok_rtake (F := F_Reader_take) (T_Reader := T_Reader) (c_need_figures := c_need_figures) (c_lengthened := c_lengthened) (c_Reader__further := c_Reader__further) (x_BadFigures := x_BadFigures) (z_len := z_len) (g_MOST_FIGURES := g_MOST_FIGURES), me_Reader_take, F_Reader_take.bindsN fun _ _ _ _ _ _ us hl => match us, hl with | [_, _], _ => rfl⟩
  have c_pressed : Cal PP w K mg base (L2N.CX PP w) 8 "pressed" ["plan", "signs"] (sp_pressed K) := ⟨He.ga K "pressed", fd_pressed, ok_pressed (F := F_pressed) (c_stretch_of := c_stretch_of) (c_figures_in := c_figures_in), g_pressed, F_pressed.kp, F_pressed.bindsN fun _ _ _ _ _ _ us hl => match us, hl with | [_, _], _ => rfl⟩
  have c__law_edge : Cal PP w K mg base CX0 9 "_law_edge" ["_law_plan_here", "_law_figure"] (sp_edge8 K) := ⟨He.ga K "_law_edge", fd__law_edge, ok_edge8 (F := F__law_edge) (T := T) (F__law_word := q__law_word) (g__law_word := g__law_word) (k__law_word := F__law_word.kp) (b__law_word := b__law_word) (g_PressError := g_PressError) (T_Reader := T_Reader) (c_Reader___init__ := c_Reader___init__) (g_Reader := g_Reader) (c_Reader_take := c_Reader_take) (c_Reader_lacking := c_Reader_lacking) (c_Reader_told := c_Reader_told), g__law_edge, F__law_edge.kp, F__law_edge.bindsN fun _ _ _ _ _ _ us hl => match us, hl with | [_, _], _ => rfl⟩
  have c__law_made : Cal PP w K mg base CX0 9 "_law_made" ["_law_script", "_law_k"] (sp_made8 K) := ⟨He.ga K "_law_made", fd__law_made, ok_made8 (F := F__law_made) (T_Reader := T_Reader) (c__law_cell_at := c__law_cell_at) (c__law_plan := c__law_plan) (c__law_signs := c__law_signs) (c_pressed := c_pressed) (c_Reader___init__ := c_Reader___init__) (g_Reader := g_Reader) (z_len := z_len), g__law_made, F__law_made.kp, F__law_made.bindsN fun _ _ _ _ _ _ us hl => match us, hl with | [_, _], _ => rfl⟩
  have c__law_take : Cal PP w K mg base CX0 9 "_law_take" ["_law_one", "_law_cell"] (sp_take8 K) := ⟨He.ga K "_law_take", fd__law_take, ok_take8 (F := F__law_take) (T := T) (F__law_word := q__law_word) (g__law_word := g__law_word) (k__law_word := F__law_word.kp) (b__law_word := b__law_word) (g_PressError := g_PressError) (T_Reader := T_Reader) (c__law_mixed := c__law_mixed) (c_Reader_take := c_Reader_take) (c__law_whole := c__law_whole) (c__law_certain := c__law_certain) (z_list := z_list) (z_tuple := z_tuple) (z_len := z_len) (z_range := z_range) (z_isinstance := z_isinstance) (z_all := z_all), g__law_take, F__law_take.kp, F__law_take.bindsN fun _ _ _ _ _ _ us hl => match us, hl with | [_, _], _ => rfl⟩
  exact ok_law (F := F_law) (c__law_cell_at := c__law_cell_at) (c__law_made := c__law_made) (c__law_refused := c__law_refused) (c__law_edge := c__law_edge) (c__law_take := c__law_take) (c__law_seen := c__law_seen) (z_len := z_len) (z_range := z_range) (z_min := z_min)
end Pl
open PySem PySem.W PySem.Calls PyProof.Rows
set_option maxRecDepth 100000 in
set_option maxHeartbeats 0 in
theorem PySem.Challenge.cw_partline_k08_readers_holds : PySem.Challenge.rw_partline_k08_readers.Holds := by
  w_on; o_law
  refine HandSHeadRun.head_any (r := OpenLaw.row PySem.Challenge.rw_partline_k08_readers) (q := view (OpenLaw.row PySem.Challenge.rw_partline_k08_readers).prog [61]) (H := Pl.hk) (ob := Pl.ob) (M := 30000) (loose := Pl.names) (d := HandSHeadRun.topDef (OpenLaw.row PySem.Challenge.rw_partline_k08_readers).prog 61) (kwd := []) Pl.ob_eq
    (by kernel_rfl) (fun s => by kernel_rfl) Pl.run (by kernel_rfl) (by kernel_rfl) (by kernel_rfl) (by rfl) (by first | assumption | decide +kernel) (by decide +kernel) ⟨rfl, rfl, rfl, rfl, rfl, by decide +kernel⟩ ?hw ?hc
  case hw => w_witness2
  case hc =>
    refine L2.walk_ofE (l := PySem.Challenge.rw_partline_k08_readers) (n := 63) (k := 10) (x := "_law_script") (CX := L2.CX0) rfl (by decide) (by kernel_rfl) ⟨rfl, by decide, by decide⟩ ?F (fun _ _ _ _ z => z)
    intro w mg fa h Y G hmg0
    obtain ⟨K, KX, c⟩ := Y
    have hmg : mg ("law" : PySem.Str) = some (.ref fa) := by
      have e : (HandSHeadRun.topDef (OpenLaw.row PySem.Challenge.rw_partline_k08_readers).prog 61).name = ("law" : PySem.Str) := by kernel_rfl
      rw [← e]
      exact hmg0
    obtain ⟨fd, hb, hF⟩ := Pl.facts (w := w) KX G hmg c
    exact ⟨K, fd, Pl.sp_law K, KX, hb, fun H a ns hl _ hS => ⟨a, ns, rfl, hS, fun _ => rfl⟩, hF⟩
