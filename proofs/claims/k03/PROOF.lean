import PyProof.Rows.All
import Wide.All
import OpenK.AllK
import Wide.FinOn
import PyProof.TypeEq
import HandS.ForExc
import HandS.Comp
import HandS.Defaults
import HandS.Zip
import HandS.IsInst
import HandS.TupAny
import HandS.TupMul
import HandS.Wide
import HandS.ExcIs
import HandS.ExcCtx
import HandS.HotCalls
import HandS.Evl
import HandS.EndBits
import HandS.Head0
import HandS.Head1
import HandS.Head2
import HandS.HeadEnd
import HandS.HeadHook1
import HandS.HeadHook2
import HandS.HeadHook3
import HandS.HeadHook4
import HandS.Text
import PyProof.StrBlock2
import PyProof.Rows.RegStrCode
import PySem.Challenge.RW_partline_k03_whole_side_by_side
set_option Elab.async false
set_option linter.all false
set_option maxRecDepth 100000
set_option maxHeartbeats 4000000
namespace Pl
open PySem PySem.Spec PyProof.Rows L2

/-! ### data: what stands there, whatever its place -/
mutual
theorem dp_same {K : PySem.W.Frag} {H H' : Hp} (e : Same H H') : ∀ (d : PyData) (v : V), Dp K H v d → Dp K H' v d
  | .none, _, h => by cases h; exact .non
  | .bool b, _, h => by cases h; exact .bl b
  | .int i, _, h => by cases h; exact .int i
  | .str x, _, h => by cases h; exact .str x
  | .list ds, _, h => by
    cases h with
    | lst hs ha => exact .lst (e.seq hs) (dpa_same e ds _ ha)
  | .tuple ds, _, h => by
    cases h with
    | tup hs ha =>
      refine .tup ?_ (dpa_same e ds _ ha)
      rcases hs with (h | ⟨o, h⟩) | h
      · exact .inl (.inl (e _ _ h))
      · exact .inl (.inr ⟨o, e _ _ h⟩)
      · exact .inr h
  | .dict _, _, h => by cases h
theorem dpa_same {K : PySem.W.Frag} {H H' : Hp} (e : Same H H') : ∀ (ds : List PyData) (vs : List V), DpAll K H vs ds → DpAll K H' vs ds
  | [], _, h => by cases h; exact .nil
  | d :: ds, _, h => by
    cases h with
    | cons h1 h2 => exact .cons (dp_same e d _ h1) (dpa_same e ds _ h2)
end
theorem same_t {K : PySem.W.Frag} {H H' : Hp} {a : Addr} {xs : List V} (e : Same H H') (h : SqT K H a xs) : SqT K H' a xs := by
  rcases h with (h | ⟨o, h⟩) | h
  · exact .inl (.inl (e _ _ h))
  · exact .inl (.inr ⟨o, e _ _ h⟩)
  · exact .inr h
theorem same_upd {H : Hp} {p : Addr} {o : HO} (h : H p = none) : Same H (upd H p o) := fun b x e => by
  rw [upd_ne (ne_of_none e h)]
  exact e
theorem same_new {H H' : Hp} {p : Addr} {o : HO} (s : Same H H') (h : H' p = none) : Same H (upd H' p o) := s.trans (same_upd h)
/-- an object that H does not know may change -/
theorem same_mut {H H' : Hp} {p : Addr} {o : HO} (e : Same H H') (h : H p = none) : Same H (upd H' p o) := fun a u ha => by
  rw [upd_ne (ne_of_none ha h)]
  exact e a u ha
theorem dp_int {K : PySem.W.Frag} {H : Hp} {v : V} {i : Int} (h : Dp K H v (.int i)) : v = .int i := by cases h; rfl
theorem dpa_ints {K : PySem.W.Frag} {H : Hp} : ∀ (ns : List Int), DpAll K H (ns.map V.int) (ns.map PyData.int)
  | [] => .nil
  | n :: r => .cons (.int n) (dpa_ints r)
theorem dpa_ints_eq {K : PySem.W.Frag} {H : Hp} : ∀ {vs : List V} {ns : List Int}, DpAll K H vs (ns.map PyData.int) → vs = ns.map V.int
  | _, [], h => by cases h; rfl
  | _, n :: r, h => by
    cases h with
    | cons h1 h2 => rw [dp_int h1, dpa_ints_eq h2]; rfl
theorem dpa_len {K : PySem.W.Frag} {H : Hp} : ∀ {vs : List V} {ds : List PyData}, DpAll K H vs ds → vs.length = ds.length
  | _, [], h => by cases h; rfl
  | _, d :: ds, h => by
    cases h with
    | cons h1 h2 => exact congrArg Nat.succ (dpa_len h2)
theorem dpa_get {K : PySem.W.Frag} {H : Hp} : ∀ {vs : List V} {ds : List PyData} {i : Nat} {d : PyData}, DpAll K H vs ds → ds[i]? = some d → ∃ v, vs[i]? = some v ∧ Dp K H v d
  | _, [], _, _, _, h => by simp at h
  | _, x :: ds, 0, d, h, e => by
    cases h with
    | cons h1 h2 => cases (Option.some.inj e); exact ⟨_, rfl, h1⟩
  | _, x :: ds, i + 1, d, h, e => by
    cases h with
    | cons h1 h2 => exact dpa_get (i := i) h2 e
theorem dpa_app {K : PySem.W.Frag} {H : Hp} : ∀ {vs us : List V} {ds es : List PyData}, DpAll K H vs ds → DpAll K H us es → DpAll K H (vs ++ us) (ds ++ es)
  | _, _, [], _, h, h2 => by cases h; exact h2
  | _, _, d :: ds, _, h, h2 => by
    cases h with
    | cons a b => exact .cons a (dpa_app b h2)

/-! ### type(x), == and != of types -/
def tyName : PyData → String
  | .none => "NoneType"
  | .bool _ => "bool"
  | .int _ => "int"
  | .str _ => "str"
  | .list _ => "list"
  | .tuple _ => "tuple"
  | .dict _ => "dict"
section
variable {X : Cx}
theorem dp_type {pins : List (Addr × Obj)} {σ : L2.St} {H : Hp} {s : Shared} {x : V} {u : Value} {d : PyData} (t : Dp X.K H x d) (I : Inv X pins σ H s) (r : RelV x u) :
    s.TypeIs u (tyName d) ∧ (Value.type (tyName d) == Value.type "builtin_function_or_method") = false := by
  have nb : (Value.type (tyName d) == Value.type "builtin_function_or_method") = false := by
    cases d <;> (simp only [tyName]; decide +kernel)
  refine ⟨?_, nb⟩
  cases t with
  | non => cases (show u = Value.none from r); exact rfl
  | bl b => cases (show u = Value.bool b from r); exact rfl
  | int i =>
    obtain ⟨k, rfl⟩ := (show ∃ t, u = Value.int i t from r)
    exact typeIs_int s i k
  | str z =>
    obtain ⟨k, rfl⟩ := (show ∃ t, u = Value.str z t from r)
    exact typeIs_str s z k
  | lst e _ =>
    cases (show u = Value.ref _ from r)
    obtain ⟨its, rv, p, _⟩ := I.list e
    exact p.isList.typeIs
  | tup e _ =>
    cases (show u = Value.ref _ from r)
    obtain ⟨its, rv, p, _⟩ := I.tuple e
    exact p.typeIs
def rTyD (K : PySem.W.Frag) : List V → Hp → VK → Prop := fun xs H Q => ∃ (x : V) (d : PyData), xs = [x] ∧ Dp K H x d ∧ Q (.ty (tyName d)) H
theorem call_typeD : CallR X (.type "type") (rTyD X.K) := by
  intro pins s σ H xs us Q I r h
  obtain ⟨x, d, rfl, t, q⟩ := h
  obtain ⟨u, rfl, rx⟩ := vals1 r
  obtain ⟨h1, h2⟩ := dp_type t I rx
  exact call_type_of h1 h2 ⟨.ty (tyName d), H, I, rfl, q⟩
def tyNames : List String := ["NoneType", "bool", "int", "str", "list", "tuple", "dict"]
theorem meta_of {n : String} (h : n ∈ tyNames) (s' : Shared) : s'.TypeIs (.type n) "type" := by
  simp only [tyNames, List.mem_cons, List.not_mem_nil, or_false] at h
  rcases h with rfl | rfl | rfl | rfl | rfl | rfl | rfl
  · exact TypeEq.meta_NoneType s'
  · exact TypeEq.meta_bool s'
  · exact TypeEq.meta_int s'
  · exact TypeEq.meta_str s'
  · exact TypeEq.meta_list s'
  · exact TypeEq.meta_tuple s'
  · exact TypeEq.meta_dict s'
theorem tyName_mem (d : PyData) : tyName d ∈ tyNames := by
  cases d <;> simp [tyName, tyNames]
def rEqTy : R2 := fun x y H Q => ∃ a b, x = .ty a ∧ y = .ty b ∧ a ∈ tyNames ∧ b ∈ tyNames ∧ Q (.bl (decide (a = b))) H
theorem op_eqTy : OpR X (compareOp .Eq) rEqTy := by
  intro pins s σ H x y v u Q I rx ry h
  obtain ⟨a, b, rfl, rfl, ha, hb, q⟩ := h
  cases rx
  cases ry
  by_cases e : a = b
  · subst e
    rw [decide_eq_true rfl] at q
    exact TypeEq.eq_type_same (meta_of ha) ⟨.bl true, H, I, rfl, q⟩
  · rw [decide_eq_false e] at q
    refine TypeEq.eq_type_other (meta_of ha) (meta_of hb) ?_ ⟨.bl false, H, I, rfl, q⟩
    rw [Bool.eq_false_iff]
    intro z
    exact e (Value.type.inj (beq_iff_eq.mp z))
end
/-! ### != of types -/
theorem slot_type_ne : Slot "type" (cmpInfo .NotEq).2.1 "object.__ne__" :=
  .of (owner := "object") (n := "__ne__") (by rw [typeLookup_type, builtinLookup_eq_fast]; kernel_rfl) (by decide +kernel) (by decide +kernel) (by decide +kernel)
    (by first | exact .inl (by decide +kernel) | exact .inr (by decide +kernel)) (by rw [isSubtype_type]; kernel_rfl)
theorem slot_type_ne_refl : Slot "type" (cmpInfo .NotEq).2.2 "object.__ne__" := slot_type_ne
section
variable {prog : Program} {w : World} {A : Around} {E : Value → Shared → Prop} {s : Shared} {Q : Value → Shared → Prop}
theorem call_type_ne {X Y : String} (hX : ∀ s' : Shared, s'.TypeIs (.type X) "type") {r : Value} (hr : r = if (Value.type X == Value.type Y) then .bool false else .notImplemented) (h : Q r s) :
    wpAny (model prog w) A (call (.builtin "object.__ne__") [.type X, .type Y]) Q E s := by
  refine wpAny_call (codeAny_call_builtin slot_type_ne.plain PySem.F.cmpEntry_ne (slot_type_ne.check _ _ _ _ _ _ _ _ (hX s) (PySem.F.cmpArgs_ne _ _) ?_))
  unfold Builtin.«object.__ne__»
  refine wpAny_bind (wpAny_of_eq (a := ((Value.type X : Value), [Value.type Y])) (by first | rfl | (simp only [slotArgs]; rfl)) ?_)
  refine wpAny_bind (wpAny_cRoomFor_or (.inl rfl) ?_)
  refine wpAny_bind (wpAny_callSpecialIfBound?_slot (hX s) TypeEq.slot_type_eq ?_)
  cases e : (Value.type X == Value.type Y) with
  | true =>
    rw [e] at hr
    subst hr
    refine call_gives TypeEq.slot_type_eq (hX s) F.entry_object_eq (F.args_object_eq_2 _ _) (TypeEq.object_eq_same rfl e) ?_
    show wpAny _ _ (truthy (.bool true) >>= _) _ _ _
    exact wpAny_bind (wpAny_truthy_bool (wpAny_pure h))
  | false =>
    rw [e] at hr
    subst hr
    refine call_gives TypeEq.slot_type_eq (hX s) F.entry_object_eq (F.args_object_eq_2 _ _) (TypeEq.object_eq_other rfl e) ?_
    exact wpAny_pure h
theorem ne_type {X Y : String} (hX : ∀ s' : Shared, s'.TypeIs (.type X) "type") (hY : ∀ s' : Shared, s'.TypeIs (.type Y) "type") (h : Q (.bool (!(Value.type X == Value.type Y))) s) : wpAny (model prog w) A (compareOp .NotEq (.type X) (.type Y)) Q E s := by
  show wpAny _ A (richCompare .NotEq _ _) Q E s
  cases e : (Value.type X == Value.type Y) with
  | true =>
    rw [e] at h
    exact wpAny_richCompare_same (T := "type") (hX s) (hY s) slot_type_ne (call_type_ne hX (by rw [e]; rfl) ⟨(fun z => by cases z), h⟩)
  | false =>
    rw [e] at h
    have e' : (Value.type Y == Value.type X) = false := by
      rw [Bool.eq_false_iff] at e ⊢
      intro z
      exact e (by rw [beq_iff_eq] at z ⊢; exact z.symm)
    rcases hi : cmpInfo CmpOp.NotEq with ⟨sym, f, r⟩
    have h1 := slot_type_ne
    have h2 := slot_type_ne_refl
    rw [hi] at h1 h2
    simp only [richCompare, hi, (hX s).oneThing_none]
    try with_reducible refine wpAny_holding ?_
    refine wpAny_bind (wpAny_cRoomFor_or (.inl rfl) ?_)
    refine wpAny_bind (wpAny_typeOf (hX s) (wpAny_bind (wpAny_typeOf (hY s) ?_)))
    simp only [bne_self_eq_false, Bool.false_eq_true, if_false, pure_bind, Bool.not_false, if_true]
    refine wpAny_bind (m := tryCompare _ _ _) (wpAny_tryCompare_declines (hX s) h1 (call_type_ne hX (by rw [e]; rfl) ⟨rfl, ?_⟩))
    refine wpAny_bind (m := tryCompare _ _ _) (wpAny_tryCompare_declines (hY s) h2 (call_type_ne hY (by rw [e']; rfl) ⟨rfl, ?_⟩))
    refine wpAny_bind (wpAny_rule (wpAny_bind (wpAny_of_eq (isSame_plain rfl) (wpAny_pure ?_))))
    rw [e]
    exact h
end
section
variable {X : Cx}
def rNeTy : R2 := fun x y H Q => ∃ a b, x = .ty a ∧ y = .ty b ∧ a ∈ tyNames ∧ b ∈ tyNames ∧ Q (.bl (!decide (a = b))) H
theorem op_neTy : OpR X (compareOp .NotEq) rNeTy := by
  intro pins s σ H x y v u Q I rx ry h
  obtain ⟨a, b, rfl, rfl, ha, hb, q⟩ := h
  cases rx
  cases ry
  refine ne_type (meta_of ha) (meta_of hb) ⟨.bl (!decide (a = b)), H, I, ?_, q⟩
  show Value.bool _ = Value.bool _
  congr 2
  by_cases e : a = b
  · subst e; rw [decide_eq_true rfl, beq_self_eq_true]
  · rw [decide_eq_false e, Bool.eq_false_iff]
    intro z
    exact e (Value.type.inj (beq_iff_eq.mp z))
/-! ### sum of a tuple of ints -/
theorem sum_tup_raw {prog : Program} {w : World} {A : Around} {E : Value → Shared → Prop} {s : Shared} {l : Addr} {its : List Value} {ns : List Int} {Q : Value → Shared → Prop} (hh : A.handled = none) (hl : IsTup s.heap l its.toArray) (hi : IntsAre its ns)
    (h : ∀ h' tk t', (∀ b o, s.heap.get? b = some o → h'.get? b = some o) → Q (.int ns.sum t') { s with heap := h', toks := tk }) : wpAny (model prog w) A (call (.builtin "sum") [.ref l]) Q E s := by
  obtain ⟨xs, e⟩ := hi.allInts.items
  have hn : numsOf (intItems xs).toList = ns := by rw [← e]; exact hi.numsOf
  rw [nums_intItems] at hn
  rw [e] at hl
  have hl2 : s.heap.IsTuple l (intItems xs) := hl
  have hlt : l < s.heap.objs.size := by obtain ⟨_, e, _⟩ := hl2; exact Heap.lt_size e
  have hne : l ≠ s.heap.objs.size := Nat.ne_of_lt hlt
  refine call_sum_walkG (wpAny_pyIter_tuple hl2 ?_)
  refine ⟨_, [s.heap.objs.size, l], [s.heap.objs.size], _, _, _, numAt xs, rfl, Walks.tuple (A := A.in1) hh _ l hne (intItems xs), ⟨⟨_, Heap.get?_push_size _ rfl, rfl, rfl⟩, hl2.push _⟩, (fun b hb => ?_), (fun _ _ => intItems_at), fun h' tk t' hk => ?_⟩
  · show b < (s.heap.push _).objs.size
    rw [Heap.size_push]
    rcases List.mem_cons.mp hb with rfl | hb
    · exact Nat.lt_succ_self _
    · rcases List.mem_cons.mp hb with rfl | hb
      · exact Nat.lt_succ_of_lt hlt
      · cases hb
  · have := h h' tk t' (fun b o q => hk b o (by simp only [List.mem_singleton]; exact Nat.ne_of_lt (Heap.lt_size q)) (Heap.get?_push_of_some _ q))
    have e2 : ns.sum = preSum (numAt xs) (intItems xs).size := by
      rw [show (intItems xs).size = xs.size by simp [intItems], preSum_eq, List.take_of_length_le (by simp), hn]
    rw [← e2]
    exact this
def rSumT (K : PySem.W.Frag) : List V → Hp → VK → Prop := fun vs H Q => ∃ (a : Addr) (ns : List Int), vs = [V.ref a] ∧ SqT K H a (ns.map V.int) ∧ Q (.int ns.sum) H
theorem cr_sumT (hc : X.calm = true) : CallR X (.builtin "sum") (rSumT X.K) := by
  intro pins s σ H vs us Q I r h
  obtain ⟨a, ns, rfl, hs, q⟩ := h
  obtain ⟨its, rv, hl, _⟩ := I.tuple hs
  rw [Vals.ref1 r]
  exact sum_tup_raw (I.ok.hd hc) hl rv.ints fun h' tk t' hk => ⟨.int _, H, I.kept hk, ⟨_, rfl⟩, q⟩
end
end Pl

namespace Pl
open PySem PySem.Spec PyProof.Rows L2
/-! ### a def that keeps its promise, found by its name -/
structure Cal (P : Program) (w : World) (K : PySem.W.Frag) (mg : Str → Option Value) (base : Heap) (CX : CXT) (k : Nat) (x : Str) (ps : List Str) (sp : Sp) : Prop where
  ex : ∃ (f : Addr) (fd : FuncData), FnOk P w K mg base CX k f fd ps sp ∧ mg x = some (.ref f) ∧ PySem.W.keepIn K (.ref f) = true ∧ Binds K fd ps []
section
variable {X : Cx} {CX : CXT} {k : Nat} {x : Str} {ps : List Str} {sp : Sp} {e : Expr} {es : List Expr} {t : TA} {p pos : Pos} {W : WX}
theorem pe_f (C : Cal X.prog X.w X.K X.mg X.base CX0 k x ps sp) (hr : Room k X.A) (ha : PA X (e :: es) t) (hg : Gl X x := by rfl) (hdb : (x == ("__debug__" : Str)) = false := by decide)
    (he : starEach (e :: es) X.env = (false, eval e X.env) :: starEach es X.env := by rfl) (hpl : (backTo pos (starEach es X.env)).any (·.1) = false := by rfl) :
    PE X (.Call (.Name x p) (e :: es) [] pos) (tCall sp [] E0 t) := by
  obtain ⟨f, fd, F, hm, hk, hb⟩ := C.ex
  exact pe_call F hr hg hm hk hb .nil pass0 ha hdb he hpl
/-- a def that may raise, W what is wished of that -/
theorem pe_fX (C : Cal X.prog X.w X.K X.mg X.base (L2N.CX X.prog X.w) k x ps sp) (hr : Room k X.A) (tk : L2N.Takes X W) (ha : PA X (e :: es) t) (hg : Gl X x := by rfl) (hdb : (x == ("__debug__" : Str)) = false := by decide)
    (he : starEach (e :: es) X.env = (false, eval e X.env) :: starEach es X.env := by rfl) (hpl : (backTo pos (starEach es X.env)).any (·.1) = false := by rfl) :
    PE X (.Call (.Name x p) (e :: es) [] pos) (tCallS sp (WE W) t) := by
  obtain ⟨f, fd, F, hm, hk, hb⟩ := C.ex
  exact pe_callS F hr hg hm hk hb (fun σ => L2N.passAt tk σ) ha hdb he hpl
end
/-! ### promises over data -/
/-- vs are such data, and what comes back is the data f tells, nothing that stood is changed -/
def PSp (K : PySem.W.Frag) (pre : List PyData → Prop) (f : List PyData → PyData) : Sp := fun vs H Q _ =>
  ∃ ds, DpAll K H vs ds ∧ pre ds ∧ ∀ v H', Same H H' → Dp K H' v (f ds) → Q v H'
end Pl

namespace Pl
open PySem PySem.Spec PyProof.Rows L2
/-! ### whole numbers, plans, texts: what the refusals ask of any data -/
def toI : PyData → Int
  | .int i => i
  | _ => 0
def isWhole (d : PyData) (lo hi : Int) : Bool := match d with
  | .int i => decide (lo ≤ i) && decide (i ≤ hi)
  | _ => false
def areWhole (ds : List PyData) (lo hi : Int) : Bool := ds.all fun d => isWhole d lo hi
def isWholeList (d : PyData) (n : Nat) (lo hi : Int) : Bool := match d with
  | .list ds => decide (ds.length ≤ n) && areWhole ds lo hi
  | _ => false
def isPlan (d : PyData) : Bool := match d with
  | .tuple ds => (match ds with
    | [c, g] => (match c with
      | .tuple cs => decide (2 ≤ cs.length) && decide (cs.length ≤ 8) && areWhole cs 1 1000000 && isWhole g 0 1000000
      | _ => false)
    | _ => false)
  | _ => false
def planD (cs : List Int) (g : Int) : PyData := .tuple [.tuple (cs.map PyData.int), .int g]
/-- a plan's counts and gain -/
structure Plan (cs : List Int) (g : Int) : Prop where
  two : 2 ≤ cs.length
  eight : cs.length ≤ 8
  pos : ∀ c ∈ cs, 1 ≤ c ∧ c ≤ 1000000
  gain : 0 ≤ g ∧ g ≤ 1000000
theorem isWhole_ok {d : PyData} {lo hi : Int} (h : isWhole d lo hi = true) : ∃ i, d = .int i ∧ lo ≤ i ∧ i ≤ hi := by
  cases d with
  | int i =>
    have h2 : (decide (lo ≤ i) && decide (i ≤ hi)) = true := h
    rw [Bool.and_eq_true, decide_eq_true_eq, decide_eq_true_eq] at h2
    exact ⟨i, rfl, h2.1, h2.2⟩
  | _ => cases h
theorem isWhole_int (i lo hi : Int) : isWhole (.int i) lo hi = (decide (lo ≤ i) && decide (i ≤ hi)) := rfl
theorem areWhole_ok {lo hi : Int} : ∀ {ds : List PyData}, areWhole ds lo hi = true → ∃ ns : List Int, ds = ns.map PyData.int ∧ ∀ n ∈ ns, lo ≤ n ∧ n ≤ hi
  | [], _ => ⟨[], rfl, fun n h => by cases h⟩
  | d :: ds, h => by
    have h2 : (isWhole d lo hi && areWhole ds lo hi) = true := h
    rw [Bool.and_eq_true] at h2
    obtain ⟨i, rfl, a, b⟩ := isWhole_ok h2.1
    obtain ⟨ns, rfl, q⟩ := areWhole_ok h2.2
    exact ⟨i :: ns, rfl, fun n hn => by
      rcases List.mem_cons.mp hn with rfl | hn
      · exact ⟨a, b⟩
      · exact q n hn⟩
theorem areWhole_ints {lo hi : Int} : ∀ {ns : List Int}, (∀ n ∈ ns, lo ≤ n ∧ n ≤ hi) → areWhole (ns.map PyData.int) lo hi = true
  | [], _ => rfl
  | n :: ns, h => by
    have h1 := h n List.mem_cons_self
    show (isWhole (.int n) lo hi && areWhole (ns.map PyData.int) lo hi) = true
    rw [areWhole_ints fun m hm => h m (List.mem_cons_of_mem _ hm), isWhole_int, decide_eq_true h1.1, decide_eq_true h1.2]
    rfl
theorem isPlan_ok {d : PyData} (h : isPlan d = true) : ∃ cs g, d = planD cs g ∧ Plan cs g := by
  unfold isPlan at h
  split at h
  · split at h
    · rename_i c g
      split at h
      · rename_i cs
        simp only [Bool.and_eq_true, decide_eq_true_eq] at h
        obtain ⟨⟨⟨h1, h2⟩, h3⟩, h4⟩ := h
        obtain ⟨ns, rfl, hq⟩ := areWhole_ok h3
        obtain ⟨i, rfl, a, b⟩ := isWhole_ok h4
        rw [List.length_map] at h1 h2
        exact ⟨ns, i, rfl, ⟨h1, h2, hq, ⟨a, b⟩⟩⟩
      · cases h
    · cases h
  · cases h
theorem isPlan_of {cs : List Int} {g : Int} (h : Plan cs g) : isPlan (planD cs g) = true := by
  show (decide (2 ≤ (cs.map PyData.int).length) && decide ((cs.map PyData.int).length ≤ 8) && areWhole (cs.map PyData.int) 1 1000000 && isWhole (.int g) 0 1000000) = true
  rw [areWhole_ints h.pos, isWhole_int, List.length_map, decide_eq_true h.two, decide_eq_true h.eight, decide_eq_true h.gain.1, decide_eq_true h.gain.2]
  rfl
def countsOf (d : PyData) : List Int := match d with
  | .tuple [.tuple cs, _] => cs.map toI
  | _ => []
def itemsOf (d : PyData) : List Int := match d with
  | .list xs => xs.map toI
  | _ => []
def gainOf (d : PyData) : Int := match d with
  | .tuple [_, g] => toI g
  | _ => 0
theorem toI_map (ns : List Int) : (ns.map PyData.int).map toI = ns := by
  rw [List.map_map]
  exact List.map_id'' (fun _ => rfl) ns
theorem counts_planD (cs : List Int) (g : Int) : countsOf (planD cs g) = cs := toI_map cs
theorem gain_planD (cs : List Int) (g : Int) : gainOf (planD cs g) = g := rfl
/-- a text of a plan of n counts -/
def Text (n : Nat) (ss : List Int) : Prop := ss.length ≤ 60 ∧ ∀ s ∈ ss, 0 ≤ s ∧ s ≤ (n : Int) - 1
theorem isText_ok {d : PyData} {n : Nat} (h : isWholeList d 60 0 ((n : Int) - 1) = true) : ∃ ss : List Int, d = .list (ss.map PyData.int) ∧ Text n ss := by
  cases d with
  | list ds =>
    have h2 : (decide (ds.length ≤ 60) && areWhole ds 0 ((n : Int) - 1)) = true := h
    rw [Bool.and_eq_true, decide_eq_true_eq] at h2
    obtain ⟨ns, rfl, q⟩ := areWhole_ok h2.2
    refine ⟨ns, rfl, ?_, q⟩
    simpa using h2.1
  | _ => cases h
theorem isText_of {ss : List Int} {n : Nat} (h : Text n ss) : isWholeList (.list (ss.map PyData.int)) 60 0 ((n : Int) - 1) = true := by
  show (decide ((ss.map PyData.int).length ≤ 60) && areWhole (ss.map PyData.int) 0 ((n : Int) - 1)) = true
  rw [areWhole_ints h.2, List.length_map, decide_eq_true h.1]
  rfl
/-! ### shares, the plan behind a sign -/
def nth (cs : List Int) (s : Int) : Int := cs.getD s.toNat 0
def belowOf (cs : List Int) (s : Int) : Int := (cs.take s.toNat).sum
def grown (cs : List Int) (g s : Int) : List Int := cs.set s.toNat (min (nth cs s + g) 1000000)
theorem grown_len (cs : List Int) (g s : Int) : (grown cs g s).length = cs.length := List.length_set ..
theorem nth_mem {cs : List Int} {s : Int} (h0 : 0 ≤ s) (h1 : s < cs.length) : nth cs s ∈ cs := by
  have h : s.toNat < cs.length := by omega
  unfold nth
  rw [List.getD_eq_getElem?_getD, List.getElem?_eq_getElem h]
  exact List.getElem_mem h
theorem Plan.nth {cs : List Int} {g s : Int} (h : Plan cs g) (h0 : 0 ≤ s) (h1 : s < cs.length) : 1 ≤ nth cs s ∧ nth cs s ≤ 1000000 := h.pos _ (nth_mem h0 h1)
theorem Plan.grown {cs : List Int} {g s : Int} (h : Plan cs g) (h0 : 0 ≤ s) (h1 : s < cs.length) : Plan (grown cs g s) g := by
  refine ⟨by rw [grown_len]; exact h.two, by rw [grown_len]; exact h.eight, fun c hc => ?_, h.gain⟩
  rcases List.mem_or_eq_of_mem_set hc with hc | rfl
  · exact h.pos c hc
  · have := h.nth h0 h1
    have := h.gain
    omega
/-! ### errors, promises that may raise -/
inductive Err where
  | plan | sign | count | figures | ended
  deriving DecidableEq
def errN : Err → Str
  | .plan => "BadPlan"
  | .sign => "BadSign"
  | .count => "BadCount"
  | .figures => "BadFigures"
  | .ended => "Ended"
def errC (K : PySem.W.Frag) (e : Err) : Addr := He.ga K (errN e)
/-- what is told of an own error class of the top -/
structure Exn (K : PySem.W.Frag) (mg : Str → Option Value) (e : Err) : Prop where
  x : PySem.W.excIn K (errC K e) He.veBase "ValueError.__new__" = true
  g : mg (errN e) = some (.ref (errC K e))
  k : PySem.W.keepIn K (.ref (errC K e)) = true
  b : PySem.W.subIn K (.ref (errC K e)) (.type "BaseException") = some true
  t : PySem.W.typeIn K (.ref (errC K e)) = some (.type "type")
/-- may raise: f tells what comes back of such data, or which error -/
def PSpX (K : PySem.W.Frag) (n : Nat) (f : List PyData → Except Err PyData) : Sp := fun vs H Q E =>
  ∃ ds, DpAll K H vs ds ∧ ds.length = n ∧ (∀ d, f ds = .ok d → ∀ v H', Same H H' → Dp K H' v d → Q v H') ∧ (∀ e, f ds = .error e → ∀ H', Same H H' → E (.ref (errC K e)) none H')
/-- a statement's end, where the reading stops -/
def Hold (u : TS) : TS := u
theorem pss_hold {X : Cx} {st : Stmt} {rest : List Stmt} {t u : TS} (h1 : PS X st t) (h2 : PSs X rest u) : PSs X (st :: rest) (tSeq t (Hold u)) := pss_cons h1 h2
theorem cmul_l {i j : Int} (h : -(2 ^ 64) < i ∧ i < 2 ^ 64) : CMul i j := .inl h
theorem cmul_r {i j : Int} (h : -(2 ^ 64) < j ∧ j < 2 ^ 64) : CMul i j := .inr h
theorem hu2_of {A : Around} {k : Nat} (hr : Room k A) : A.units + 64 < cLine := Nat.lt_of_le_of_lt (by omega) hr.un
end Pl

namespace Pl
open PySem PySem.Spec PyProof.Rows L2

/-- all but D -/
def erase (D : Addr) (H : Hp) : Hp := fun a => if a = D then none else H a
theorem erase_same (D : Addr) (H : Hp) : Same (erase D H) H := fun b o e => by
  unfold erase at e
  split at e
  · cases e
  · exact e
theorem erase_at {D a : Addr} {H : Hp} (h : a ≠ D) : erase D H a = H a := if_neg h
theorem erase_self {D : Addr} {H : Hp} : erase D H D = none := if_pos rfl
theorem erase_upd {D : Addr} {H : Hp} {o : HO} : erase D (upd H D o) = erase D H := funext fun a => by
  unfold erase
  split
  · rfl
  · rename_i h; exact upd_ne h
theorem same_erase {D : Addr} {H H' : Hp} (s : Same H H') (h : H D = none) : Same H (erase D H') := fun b o e => by
  rw [erase_at (ne_of_none e h)]
  exact s b o e
theorem erase_mono {D : Addr} {H H' : Hp} (s : Same H H') : Same (erase D H) (erase D H') := fun b o e => by
  unfold erase at e ⊢
  split at e
  · cases e
  · rename_i h; rw [if_neg h]; exact s b o e
theorem same_noerase {D : Addr} {H H' : Hp} (s : Same H (erase D H')) : Same H H' := s.trans (erase_same D H')

theorem lc_dpL {K : PySem.W.Frag} {a : Addr} {xs : List V} {tl : TE} {j : Nat} {σ : L2.St} {H : Hp} {Q : VK} {te : TE} {tt : TT} (keep : Nat → Bool) (g : Nat → PyData) (hi : ∀ R : VK, R (.ref a) H → tl σ H R) (hs : SqL K H a xs) (hz : xs.length ≤ 100000)
    (ht : ∀ n x H' (R : Bool → Hp → Prop), xs[n]? = some x → Same H H' → (∀ H'', Same H' H'' → R (keep n) H'') → tt ((wipe σ [j]).set j (some x)) H' R)
    (he : ∀ n x H' D (R : VK), xs[n]? = some x → keep n = true → H D = none → (∃ acc, H' D = some (.lst acc)) → Same H H' → (∀ y H'', Same H' H'' → Dp K (erase D H'') y (g n) → R y H'') → te ((wipe σ [j]).set j (some x)) H' R)
    (hd : ∀ D acc H', H D = none → Same H H' → H' D = some (.lst acc) → DpAll K H' acc (((List.range xs.length).filter keep).map g) → Q (.ref D) H') :
    tLc (iList K tl) (gName j) tt te [j] σ H Q := by
  have hw : ∀ x, wipe ((wipe σ [j]).set j (some x)) [j] = wipe σ [j] := fun x => by
    show ((σ.set j none).set j (some x)).set j none = σ.set j none
    rw [List.set_set, List.set_set]
  show tl σ H _
  refine hi _ ⟨a, rfl, ⟨xs, hs⟩, ?_⟩
  intro D hD
  refine L2.lc_list (K := K) (a := a) (xs := xs) (fun i H' => ∃ acc, H' D = some (.lst acc) ∧ Same H (erase D H') ∧ acc.length ≤ i ∧ DpAll K (erase D H') acc (((List.range i).filter keep).map g)) ?_ (fun i H' _ ⟨acc, _, sm, _⟩ => (same_noerase sm).seq hs) ?_ ?_
  · refine ⟨[], upd_same, same_erase (same_upd hD) hD, Nat.le_refl _, .nil⟩
  · rintro n x H' hi2 ⟨acc, e, sm, hlen, dp⟩
    show wipe ((wipe σ [j]).set j (some x)) [j] = wipe σ [j] ∧ tt _ _ _
    refine ⟨hw _, ht n x H' _ hi2 (same_noerase sm) fun H2 s2 => ?_⟩
    have e2 := s2 D _ e
    have sm2 : Same H (erase D H2) := sm.trans (erase_mono s2)
    have dp2 := dpa_same (erase_mono (D := D) s2) _ _ dp
    cases kp : keep n with
    | false =>
      refine iteF ⟨acc, e2, sm2, Nat.le_succ_of_le hlen, ?_⟩
      rw [List.range_succ, List.filter_append, List.filter_cons, kp]
      simpa using dp2
    | true =>
      refine iteT ?_
      refine he n x H2 D _ hi2 kp hD ⟨acc, e2⟩ (same_noerase sm2) fun y H3 s3 hy => ?_
      have e3 := s3 D _ e2
      refine ⟨acc, e3, Nat.lt_of_le_of_lt hlen (Nat.lt_of_lt_of_le (show n < 100001 by have := (List.getElem?_eq_some_iff.mp hi2).1; omega) (by decide)), acc ++ [y], upd_same, ?_, ?_, ?_⟩
      · rw [erase_upd]
        exact sm2.trans (erase_mono s3)
      · rw [List.length_append]
        exact Nat.succ_le_succ hlen
      · rw [erase_upd, List.range_succ, List.filter_append, List.filter_cons, kp, List.map_append]
        exact dpa_app (dpa_same (erase_mono s3) _ _ dp2) (.cons hy .nil)
  · rintro H' ⟨acc, e, sm, hlen, dp⟩
    exact hd D acc H' hD (same_noerase sm) e (dpa_same (erase_same D H') _ _ dp)

theorem lc_dpT {K : PySem.W.Frag} {a : Addr} {xs : List V} {tl : TE} {j : Nat} {σ : L2.St} {H : Hp} {Q : VK} {te : TE} {tt : TT} (keep : Nat → Bool) (g : Nat → PyData) (hi : ∀ R : VK, R (.ref a) H → tl σ H R) (hs : SqT K H a xs) (hz : xs.length ≤ 100000)
    (ht : ∀ n x H' (R : Bool → Hp → Prop), xs[n]? = some x → Same H H' → (∀ H'', Same H' H'' → R (keep n) H'') → tt ((wipe σ [j]).set j (some x)) H' R)
    (he : ∀ n x H' D (R : VK), xs[n]? = some x → keep n = true → H D = none → (∃ acc, H' D = some (.lst acc)) → Same H H' → (∀ y H'', Same H' H'' → Dp K (erase D H'') y (g n) → R y H'') → te ((wipe σ [j]).set j (some x)) H' R)
    (hd : ∀ D acc H', H D = none → Same H H' → H' D = some (.lst acc) → DpAll K H' acc (((List.range xs.length).filter keep).map g) → Q (.ref D) H') :
    tLc (iTup K tl) (gName j) tt te [j] σ H Q := by
  have hw : ∀ x, wipe ((wipe σ [j]).set j (some x)) [j] = wipe σ [j] := fun x => by
    show ((σ.set j none).set j (some x)).set j none = σ.set j none
    rw [List.set_set, List.set_set]
  show tl σ H _
  refine hi _ ⟨a, rfl, ⟨xs, hs⟩, ?_⟩
  intro D hD
  refine L2.lc_tup (K := K) (a := a) (xs := xs) (fun i H' => ∃ acc, H' D = some (.lst acc) ∧ Same H (erase D H') ∧ acc.length ≤ i ∧ DpAll K (erase D H') acc (((List.range i).filter keep).map g)) ?_ (fun i H' _ ⟨acc, _, sm, _⟩ => same_t (same_noerase sm) hs) ?_ ?_
  · refine ⟨[], upd_same, same_erase (same_upd hD) hD, Nat.le_refl _, .nil⟩
  · rintro n x H' hi2 ⟨acc, e, sm, hlen, dp⟩
    show wipe ((wipe σ [j]).set j (some x)) [j] = wipe σ [j] ∧ tt _ _ _
    refine ⟨hw _, ht n x H' _ hi2 (same_noerase sm) fun H2 s2 => ?_⟩
    have e2 := s2 D _ e
    have sm2 : Same H (erase D H2) := sm.trans (erase_mono s2)
    have dp2 := dpa_same (erase_mono (D := D) s2) _ _ dp
    cases kp : keep n with
    | false =>
      refine iteF ⟨acc, e2, sm2, Nat.le_succ_of_le hlen, ?_⟩
      rw [List.range_succ, List.filter_append, List.filter_cons, kp]
      simpa using dp2
    | true =>
      refine iteT ?_
      refine he n x H2 D _ hi2 kp hD ⟨acc, e2⟩ (same_noerase sm2) fun y H3 s3 hy => ?_
      have e3 := s3 D _ e2
      refine ⟨acc, e3, Nat.lt_of_le_of_lt hlen (Nat.lt_of_lt_of_le (show n < 100001 by have := (List.getElem?_eq_some_iff.mp hi2).1; omega) (by decide)), acc ++ [y], upd_same, ?_, ?_, ?_⟩
      · rw [erase_upd]
        exact sm2.trans (erase_mono s3)
      · rw [List.length_append]
        exact Nat.succ_le_succ hlen
      · rw [erase_upd, List.range_succ, List.filter_append, List.filter_cons, kp, List.map_append]
        exact dpa_app (dpa_same (erase_mono s3) _ _ dp2) (.cons hy .nil)
  · rintro H' ⟨acc, e, sm, hlen, dp⟩
    exact hd D acc H' hD (same_noerase sm) e (dpa_same (erase_same D H') _ _ dp)

theorem lc_dpR {K : PySem.W.Frag} {m : Nat} {ta : TA} {j : Nat} {σ : L2.St} {H : Hp} {Q : VK} {te : TE} {tt : TT} (keep : Nat → Bool) (g : Nat → PyData) (hi : ∀ R : List V → Hp → Prop, R [.int (m : Int)] H → ta σ H R) (hz : m ≤ 100000)
    (ht : ∀ n H' (R : Bool → Hp → Prop), n < m → Same H H' → (∀ H'', Same H' H'' → R (keep n) H'') → tt ((wipe σ [j]).set j (some (.int (n : Int)))) H' R)
    (he : ∀ n H' D (R : VK), n < m → keep n = true → H D = none → (∃ acc, H' D = some (.lst acc)) → Same H H' → (∀ y H'', Same H' H'' → Dp K (erase D H'') y (g n) → R y H'') → te ((wipe σ [j]).set j (some (.int (n : Int)))) H' R)
    (hd : ∀ D acc H', H D = none → Same H H' → H' D = some (.lst acc) → DpAll K H' acc (((List.range m).filter keep).map g) → Q (.ref D) H') :
    tLc (iRng1 ta) (gName j) tt te [j] σ H Q := by
  have hw : ∀ x, wipe ((wipe σ [j]).set j (some x)) [j] = wipe σ [j] := fun x => by
    show ((σ.set j none).set j (some x)).set j none = σ.set j none
    rw [List.set_set, List.set_set]
  show ta σ H _
  refine hi _ ⟨(m : Int), rfl, by omega, by omega, ?_⟩
  rw [Int.toNat_natCast]
  intro D hD
  refine L2.lc_range (lo := 0) (n := m) (fun i H' => ∃ acc, H' D = some (.lst acc) ∧ Same H (erase D H') ∧ acc.length ≤ i ∧ DpAll K (erase D H') acc (((List.range i).filter keep).map g)) ?_  ?_ ?_
  · refine ⟨[], upd_same, same_erase (same_upd hD) hD, Nat.le_refl _, .nil⟩
  · rintro n H' hi2 ⟨acc, e, sm, hlen, dp⟩
    rw [Int.zero_add]
    show wipe ((wipe σ [j]).set j (some (.int (n : Int)))) [j] = wipe σ [j] ∧ tt _ _ _
    refine ⟨hw _, ht n  H' _ hi2 (same_noerase sm) fun H2 s2 => ?_⟩
    have e2 := s2 D _ e
    have sm2 : Same H (erase D H2) := sm.trans (erase_mono s2)
    have dp2 := dpa_same (erase_mono (D := D) s2) _ _ dp
    cases kp : keep n with
    | false =>
      refine iteF ⟨acc, e2, sm2, Nat.le_succ_of_le hlen, ?_⟩
      rw [List.range_succ, List.filter_append, List.filter_cons, kp]
      simpa using dp2
    | true =>
      refine iteT ?_
      refine he n  H2 D _ hi2 kp hD ⟨acc, e2⟩ (same_noerase sm2) fun y H3 s3 hy => ?_
      have e3 := s3 D _ e2
      refine ⟨acc, e3, Nat.lt_of_le_of_lt hlen (Nat.lt_of_lt_of_le (show n < 100001 by omega) (by decide)), acc ++ [y], upd_same, ?_, ?_, ?_⟩
      · rw [erase_upd]
        exact sm2.trans (erase_mono s3)
      · rw [List.length_append]
        exact Nat.succ_le_succ hlen
      · rw [erase_upd, List.range_succ, List.filter_append, List.filter_cons, kp, List.map_append]
        exact dpa_app (dpa_same (erase_mono s3) _ _ dp2) (.cons hy .nil)
  · rintro H' ⟨acc, e, sm, hlen, dp⟩
    exact hd D acc H' hD (same_noerase sm) e (dpa_same (erase_same D H') _ _ dp)
theorem filter_yes {α : Type} (l : List α) : l.filter (fun _ => true) = l := List.filter_eq_self.mpr fun _ _ => rfl
theorem yes_t {σ : L2.St} {H : Hp} {R : Bool → Hp → Prop} (k : ∀ H'', Same H H'' → R true H'') : tYes σ H R := k H (Same.refl H)
theorem range_get {α β : Type} (l : List α) (f : α → β) (d : α) : (List.range l.length).map (fun n => f (l.getD n d)) = l.map f := by
  refine List.ext_getElem? fun i => ?_
  rw [List.getElem?_map, List.getElem?_map]
  by_cases h : i < l.length
  · rw [List.getElem?_range h, List.getElem?_eq_getElem h]
    simp [List.getD_eq_getElem?_getD, List.getElem?_eq_getElem h]
  · rw [List.getElem?_eq_none (by simpa using h), List.getElem?_eq_none (by simpa using h)]
    rfl
theorem getD_of {α : Type} {l : List α} {n : Nat} {x d : α} (h : l[n]? = some x) : l.getD n d = x := by
  rw [List.getD_eq_getElem?_getD, h]; rfl
theorem dpa_bools {K : PySem.W.Frag} {H : Hp} : ∀ {vs : List V} {bs : List Bool}, DpAll K H vs (bs.map PyData.bool) → vs = bs.map V.bl
  | _, [], h => by cases h; rfl
  | _, b :: r, h => by
    cases h with
    | cons h1 h2 => cases h1; rw [dpa_bools h2]; rfl
theorem dpa_get2 {K : PySem.W.Frag} {H : Hp} {vs : List V} {ds : List PyData} {i : Nat} {v : V} (h : DpAll K H vs ds) (e : vs[i]? = some v) : ∃ d, ds[i]? = some d ∧ Dp K H v d := by
  have hl := dpa_len h
  obtain ⟨hi, _⟩ := List.getElem?_eq_some_iff.mp e
  have hd : ds[i]? = some (ds[i]'(by omega)) := List.getElem?_eq_getElem (by omega)
  obtain ⟨v', e', hv⟩ := dpa_get h hd
  rw [e] at e'
  cases e'
  exact ⟨_, hd, hv⟩
/-- a plan as it stands in the heap -/
theorem plan_at {K : PySem.W.Frag} {H : Hp} {v : V} {cs : List Int} {g : Int} (h : Dp K H v (planD cs g)) : ∃ a c, v = .ref a ∧ SqT K H a [.ref c, .int g] ∧ SqT K H c (cs.map V.int) := by
  cases h with
  | tup hs ha =>
    cases ha with
    | cons h1 h2 =>
      cases h2 with
      | cons h2 h3 =>
        cases h3
        cases dp_int h2
        cases h1 with
        | tup hc hcs =>
          rw [dpa_ints_eq hcs] at hc
          exact ⟨_, _, rfl, hs, hc⟩
theorem plan_dp {K : PySem.W.Frag} {H : Hp} {a c : Addr} {cs : List Int} {g : Int} (h1 : SqT K H a [.ref c, .int g]) (h2 : SqT K H c (cs.map V.int)) : Dp K H (.ref a) (planD cs g) :=
  .tup h1 (.cons (.tup h2 (dpa_ints cs)) (.cons (.int g) .nil))
theorem at_nth {cs : List Int} {s : Int} (h0 : 0 ≤ s) (h1 : s < cs.length) : atI (cs.map V.int) s = some (.int (nth cs s)) := by
  refine at_of (j := s.toNat) (by omega) ?_
  have h : s.toNat < cs.length := by omega
  unfold nth
  rw [List.getElem?_map, List.getElem?_eq_getElem h, List.getD_eq_getElem?_getD, List.getElem?_eq_getElem h]
  rfl
/-! ### slices of tuples -/
theorem cut_take {xs : List V} {s : Int} (h0 : 0 ≤ s) (h1 : s ≤ xs.length) : cutV xs none (some s) = xs.take s.toNat := by
  unfold cutV
  obtain ⟨n, rfl⟩ := Int.eq_ofNat_of_zero_le h0
  rw [HT.sIx_none, HT.sIx_nat, Int.toNat_natCast]
  have : n ≤ xs.length := by omega
  rw [Nat.min_eq_left this, Nat.sub_zero, List.drop_zero]
theorem cut_drop {xs : List V} {s : Int} (h0 : 0 ≤ s) (h1 : s ≤ xs.length) : cutV xs (some s) none = xs.drop s.toNat := by
  unfold cutV
  obtain ⟨n, rfl⟩ := Int.eq_ofNat_of_zero_le h0
  rw [HT.sIx_none, HT.sIx_nat, Int.toNat_natCast]
  have : n ≤ xs.length := by omega
  rw [Nat.min_eq_left this]
  exact List.take_of_length_le (by rw [List.length_drop]; exact Nat.le_refl _)
theorem slT_take {K : PySem.W.Frag} {H : Hp} {a : Addr} {xs : List V} {s : Int} {Q : VK} (hs : SqT K H a xs) (h0 : 0 ≤ s) (h1 : s ≤ xs.length) (k : ∀ p H', Same H H' → SqT K H' p (xs.take s.toNat) → Q (.ref p) H') : rSlA K (.ref a) none (some s) H Q := by
  refine ⟨a, xs, rfl, hs, fun hw => ?_, fun hw p hp => ?_⟩
  · refine k a H (Same.refl _) ?_
    have e : s.toNat = xs.length := by
      have := hw.2
      obtain ⟨n, rfl⟩ := Int.eq_ofNat_of_zero_le h0
      rw [HT.sIx_nat] at this
      rw [Int.toNat_natCast]
      omega
    rw [e, List.take_length]
    exact hs
  · rw [cut_take h0 h1]
    exact k p _ (same_upd hp) (.inl (.inl upd_same))
theorem slT_drop {K : PySem.W.Frag} {H : Hp} {a : Addr} {xs : List V} {s : Int} {Q : VK} (hs : SqT K H a xs) (h0 : 0 ≤ s) (h1 : s ≤ xs.length) (k : ∀ p H', Same H H' → SqT K H' p (xs.drop s.toNat) → Q (.ref p) H') : rSlA K (.ref a) (some s) none H Q := by
  refine ⟨a, xs, rfl, hs, fun hw => ?_, fun hw p hp => ?_⟩
  · refine k a H (Same.refl _) ?_
    have e : s.toNat = 0 := by
      have := hw.1
      obtain ⟨n, rfl⟩ := Int.eq_ofNat_of_zero_le h0
      rw [HT.sIx_nat] at this
      rw [Int.toNat_natCast]
      omega
    rw [e, List.drop_zero]
    exact hs
  · rw [cut_drop h0 h1]
    exact k p _ (same_upd hp) (.inl (.inl upd_same))
theorem catT {K : PySem.W.Frag} {H : Hp} {a b : Addr} {xs ys : List V} {Q : VK} (ha : SqT K H a xs) (hb : SqT K H b ys) (hz : xs.length + ys.length ≤ 100000) (k : ∀ p H', Same H H' → SqT K H' p (xs ++ ys) → Q (.ref p) H') : rCatA K (.ref a) (.ref b) H Q := by
  refine ⟨a, b, xs, ys, rfl, rfl, ha, hb, Nat.le_trans hz (by decide), fun e => ?_, fun _ e => ?_, fun _ _ p hp => ?_⟩
  · subst e; exact k b H (Same.refl _) hb
  · subst e; rw [List.append_nil] at k; exact k a H (Same.refl _) ha
  · exact k p _ (same_upd hp) (.inl (.inl upd_same))
/-! ### isinstance of data -/
def isD (d : PyData) (U : String) : Bool := tyName d == U || (tyName d == "bool" && U == "int")
theorem dp_tyx {K : PySem.W.Frag} {H : Hp} {x : V} {d : PyData} (h : Dp K H x d) : TyX K H x (.type (tyName d)) := by
  cases h with
  | non => exact .base .non
  | bl b => exact .base (.bl b)
  | int i => exact .base (.int i)
  | str z => exact .base (.str z)
  | lst hs _ =>
    rcases hs with (h | ⟨o, h⟩) | ⟨o, its, n, hk, hc, _⟩
    · exact .base (.lst h)
    · exact .base (.frz h)
    · exact .kList hk hc
  | tup hs _ =>
    rcases hs with (h | ⟨o, h⟩) | ⟨o, its, n, hk, hc, _⟩
    · exact .base (.tup h)
    · exact .fTuple h
    · exact .kTuple hk hc
theorem kit_names : ∀ a ∈ ["NoneType", "bool", "int", "str", "list", "tuple"], ∀ b ∈ ["int", "bool", "tuple", "list"], kitB a b = some (a == b || (a == "bool" && b == "int")) := by decide +kernel
def rIsD (K : PySem.W.Frag) : List V → Hp → VK → Prop := fun xs H Q => ∃ (x : V) (d : PyData) (U : String), xs = [x, .ty U] ∧ Dp K H x d ∧ U ∈ ["int", "bool", "tuple", "list"] ∧ Q (.bl (isD d U)) H
theorem call_isD {X : Cx} : CallR X (.builtin "isinstance") (rIsD X.K) := by
  intro pins s σ H xs us Q I r h
  obtain ⟨x, d, U, rfl, hd, hU, q⟩ := h
  refine call_isi pins s σ H _ us Q I r ⟨x, .ty U, _, _, _, rfl, .ty U, dp_tyx hd, kit_ty (kit_names _ ?_ U hU), q⟩
  cases hd <;> simp [tyName]
/-! ### the laws' own numbers -/
def cellAt (ns : List Int) (k : Nat) : Int := match ns[k]? with
  | some x => x + x % 251 * 381840
  | none => 0
def mixed (c k : Int) : Int := (c * (48271 + 7919 * k * k + 104729 * k) + 7919 * k + 12345) % 2147483647
theorem mixed_nn (c k : Int) : 0 ≤ mixed c k := Int.emod_nonneg _ (by decide)
def mostOf (c : Int) : Int := [3, 9, 1000, 1000000].getD (c / 7 % 4).toNat 3
def counts0 (c : Int) : List Int := (List.range (2 + c % 7).toNat).map fun (k : Nat) => 1 + mixed (c / 112) (k : Int) % mostOf c
def planCs (c : Int) : List Int := if c / 28 % 4 = 3 then (counts0 c).set (c / 112 % ((counts0 c).length : Int)).toNat (1000000 - c / 300 % 3) else counts0 c
def planG (c : Int) : Int := [0, 1, 7, c / 112 % 1000001].getD (c / 28 % 4).toNat 0
theorem mod4 (x : Int) : x % 4 = 0 ∨ x % 4 = 1 ∨ x % 4 = 2 ∨ x % 4 = 3 := by omega
theorem mostOf_ok (c : Int) : 3 ≤ mostOf c ∧ mostOf c ≤ 1000000 := by
  unfold mostOf
  rcases mod4 (c / 7) with h | h | h | h <;> rw [h] <;> decide
theorem planG_ok (c : Int) : 0 ≤ planG c ∧ planG c ≤ 1000000 := by
  unfold planG
  have h1 : 0 ≤ c / 112 % 1000001 := Int.emod_nonneg _ (by decide)
  have h2 : c / 112 % 1000001 < 1000001 := Int.emod_lt_of_pos _ (by decide)
  rcases mod4 (c / 28) with h | h | h | h <;> rw [h]
  · exact (by decide : (0 : Int) ≤ 0 ∧ (0 : Int) ≤ 1000000)
  · exact (by decide : (0 : Int) ≤ 1 ∧ (1 : Int) ≤ 1000000)
  · exact (by decide : (0 : Int) ≤ 7 ∧ (7 : Int) ≤ 1000000)
  · show 0 ≤ c / 112 % 1000001 ∧ c / 112 % 1000001 ≤ 1000000
    omega
theorem counts0_len (c : Int) : (counts0 c).length = (2 + c % 7).toNat := by
  unfold counts0
  rw [List.length_map, List.length_range]
theorem counts0_ok (c : Int) : ∀ x ∈ counts0 c, 1 ≤ x ∧ x ≤ 1000000 := fun x hx => by
  obtain ⟨k, _, rfl⟩ := List.mem_map.mp hx
  have := mostOf_ok c
  have h1 : 0 ≤ mixed (c / 112) k % mostOf c := Int.emod_nonneg _ (by omega)
  have h2 : mixed (c / 112) k % mostOf c < mostOf c := Int.emod_lt_of_pos _ (by omega)
  omega
theorem planCs_len (c : Int) : (planCs c).length = (2 + c % 7).toNat := by
  unfold planCs
  split
  · rw [List.length_set, counts0_len]
  · exact counts0_len c
theorem plan_ok (c : Int) : Plan (planCs c) (planG c) := by
  refine ⟨by rw [planCs_len]; omega, by rw [planCs_len]; omega, fun x hx => ?_, planG_ok c⟩
  unfold planCs at hx
  split at hx
  · rcases List.mem_or_eq_of_mem_set hx with hx | rfl
    · exact counts0_ok c x hx
    · omega
  · exact counts0_ok c x hx
def signAt (c : Int) (n : Nat) (k : Nat) : Int :=
  if c / 61 % 4 = 2 ∧ (k : Int) % 4 < 3 then 0 else if c / 61 % 4 = 1 then c / 244 % (n : Int) else mixed (c / 244) k % (n : Int)
def signsOf (c : Int) (n : Nat) (most : Int) : List Int := (List.range (c % (most + 1)).toNat).map (signAt c n)
theorem signAt_ok {c : Int} {n k : Nat} (h : 0 < n) : 0 ≤ signAt c n k ∧ signAt c n k < n := by
  unfold signAt
  have h1 : 0 ≤ c / 244 % (n : Int) := Int.emod_nonneg _ (by omega)
  have h2 : c / 244 % (n : Int) < n := Int.emod_lt_of_pos _ (by omega)
  have h3 : 0 ≤ mixed (c / 244) k % (n : Int) := Int.emod_nonneg _ (by omega)
  have h4 : mixed (c / 244) k % (n : Int) < n := Int.emod_lt_of_pos _ (by omega)
  split
  · omega
  · split <;> omega
theorem signsOf_ok {c : Int} {n : Nat} {most : Int} (h : 0 < n) : ∀ s ∈ signsOf c n most, 0 ≤ s ∧ s < n := fun s hs => by
  obtain ⟨k, _, rfl⟩ := List.mem_map.mp hs
  exact signAt_ok h
theorem signsOf_len {c : Int} {n : Nat} {most : Int} (h : 0 ≤ most) : (signsOf c n most).length ≤ most.toNat := by
  unfold signsOf
  rw [List.length_map, List.length_range]
  have h2 : c % (most + 1) < most + 1 := Int.emod_lt_of_pos _ (by omega)
  omega
/-! ### a tuple is not the list that is being made -/
theorem sqt_erase {K : PySem.W.Frag} {D a : Addr} {H : Hp} {xs : List V} (hD : ∃ acc, H D = some (.lst acc)) (h : SqT K H a xs) : SqT K (erase D H) a xs := by
  obtain ⟨acc, e⟩ := hD
  rcases h with (h | ⟨o, h⟩) | h
  · exact .inl (.inl (by rw [erase_at (fun z => by rw [z, e] at h; cases h)]; exact h))
  · exact .inl (.inr ⟨o, by rw [erase_at (fun z => by rw [z, e] at h; cases h)]; exact h⟩)
  · exact .inr h
theorem dpa_map {K : PySem.W.Frag} {H : Hp} {α : Type} (f : α → V) (g : α → PyData) (h : ∀ x, Dp K H (f x) (g x)) : ∀ l : List α, DpAll K H (l.map f) (l.map g)
  | [] => .nil
  | x :: r => .cons (h x) (dpa_map f g h r)
theorem areWhole_mem {ds : List PyData} {lo hi : Int} {d : PyData} (hd : d ∈ ds) (h : isWhole d lo hi = false) : areWhole ds lo hi = false := by
  rw [Bool.eq_false_iff]
  intro z
  have := List.all_eq_true.mp z d hd
  rw [h] at this
  cases this
/-- a count is none -/
theorem noplan_count {cs : List PyData} {g d : PyData} (hd : d ∈ cs) (h : isWhole d 1 1000000 = false) : isPlan (.tuple [.tuple cs, g]) = false := by
  show (decide (2 ≤ cs.length) && decide (cs.length ≤ 8) && areWhole cs 1 1000000 && isWhole g 0 1000000) = false
  rw [areWhole_mem hd h, Bool.and_false]
  rfl
theorem noplan_gain {cs : List PyData} {g : PyData} (h : isWhole g 0 1000000 = false) : isPlan (.tuple [.tuple cs, g]) = false := by
  show (decide (2 ≤ cs.length) && decide (cs.length ≤ 8) && areWhole cs 1 1000000 && isWhole g 0 1000000) = false
  rw [h, Bool.and_false]
theorem isWhole_out {i lo hi : Int} (h : i < lo ∨ hi < i) : isWhole (.int i) lo hi = false := by
  rw [isWhole_int]
  rcases h with h | h
  · rw [decide_eq_false (by omega : ¬ lo ≤ i)]
    rfl
  · rw [decide_eq_false (by omega : ¬ i ≤ hi), Bool.and_false]
theorem at_dp {K : PySem.W.Frag} {H : Hp} {vs : List V} {ds : List PyData} {k : Int} (h : DpAll K H vs ds) (h0 : 0 ≤ k) (h1 : k < ds.length) : ∃ v d, atI vs k = some v ∧ d ∈ ds ∧ ds[k.toNat]? = some d ∧ Dp K H v d := by
  have hk : k.toNat < ds.length := by omega
  have e : ds[k.toNat]? = some ds[k.toNat] := List.getElem?_eq_getElem hk
  obtain ⟨v, ev, hv⟩ := dpa_get h e
  exact ⟨v, _, at_of (j := k.toNat) (by omega) ev, List.getElem_mem hk, e, hv⟩
/-! ### the same rules, the written part by its own letter (within a comprehension it must be so) -/
section
variable {X : Cx} {K : PySem.W.Frag}
theorem sl_tupK (h : X.K = K) : SlR X (rSlA K) := by subst h; exact sl_tupA
theorem sl_listK (h : X.K = K) : SlR X (rSlL K) := by subst h; exact sl_list
theorem ix_tupK (h : X.K = K) : IxR X (rIxT K) := by subst h; exact ix_tup
theorem ix_listK (h : X.K = K) : IxR X (rIxL K) := by subst h; exact ix_list
theorem op_catK (h : X.K = K) : OpR X (binaryOp .Add) (rCatA K) := by subst h; exact op_catA
theorem op_repTK (h : X.K = K) : OpR X (binaryOp .Mult) (rRepT K) := by subst h; exact op_repT
theorem op_eqDK (h : X.K = K) (hu : X.A.units + 64 < cLine) : OpR X (compareOp .Eq) (rEqD K) := by subst h; exact op_eqD hu
theorem op_neDK (h : X.K = K) (hu : X.A.units + 64 < cLine) : OpR X (compareOp .NotEq) (rNeD K) := by subst h; exact op_neD hu
def rLenK (K : PySem.W.Frag) : List V → Hp → VK → Prop := fun xs H Q => ∃ p ys, xs = [.ref p] ∧ (SqL K H p ys ∨ SqT K H p ys) ∧ Q (.int (ys.length : Int)) H
theorem lenK (h : X.K = K) : CallR X (.builtin "len") (rLenK K) := by subst h; exact call_len_seq
def rTupK (K : PySem.W.Frag) : List V → Hp → VK → Prop := fun xs H Q => ∃ p ys, xs = [.ref p] ∧ ((SqL K H p ys ∧ ∀ l, H l = none → Q (.ref l) (upd H l (.tup ys))) ∨ (SqT K H p ys ∧ Q (.ref p) H))
theorem tupleK (h : X.K = K) : CallR X (.type "tuple") (rTupK K) := by subst h; exact call_tuple_of
def rListK (K : PySem.W.Frag) : List V → Hp → VK → Prop := fun xs H Q => ∃ p ys, xs = [.ref p] ∧ (SqL K H p ys ∨ SqT K H p ys) ∧ ∀ l, H l = none → Q (.ref l) (upd H l (.lst ys))
theorem listK (h : X.K = K) : CallR X (.type "list") (rListK K) := by subst h; exact call_list_of
theorem typeK (h : X.K = K) : CallR X (.type "type") (rTyD K) := by subst h; exact call_typeD
theorem isK (h : X.K = K) : CallR X (.builtin "isinstance") (rIsD K) := by subst h; exact call_isD
theorem sumTK (h : X.K = K) (hc : X.calm = true) : CallR X (.builtin "sum") (rSumT K) := by subst h; exact cr_sumT hc
theorem sumLK (h : X.K = K) (hc : X.calm = true) : CallR X (.builtin "sum") (rSum K) := by subst h; exact cr_sum hc
theorem allK (h : X.K = K) (hc : X.calm = true) : CallR X (.builtin "all") (rAll K) := by subst h; exact cr_all hc
theorem anyK (h : X.K = K) (hc : X.calm = true) : CallR X (.builtin "any") (rAny K) := by subst h; exact cr_any hc
theorem pg_tupK {es : List Expr} {k : Nat} {t : TGs} {n : Nat} {pos : Pos} (hK : X.K = K) (hc : X.calm = true) (h : PGs X es t) (hn : (assignEach es X.env).length = n := by rfl) (hst : (assignEach es X.env).findIdx? (·.1) = none := by rfl) : PG X (.Tuple es k pos) (gTup K n t) := by
  subst hK
  exact pg_tup hc h hn hst
theorem pi_listK {l tg : Expr} {tl : TE} (h : X.K = K) (hl : PE X l tl) : PI X tg l (iList K tl) := by subst h; exact pi_list hl
theorem pi_tupK {l tg : Expr} {tl : TE} (h : X.K = K) (hl : PE X l tl) : PI X tg l (iTup K tl) := by subst h; exact pi_tup hl
end
/-- the list that is gone over, made first -/
theorem lc_src {K : PySem.W.Frag} {tl : TE} {g : TG} {tt : TT} {te : TE} {js : List Nat} {σ : L2.St} {H : Hp} {Q : VK} (h : tl σ H fun x H1 => tLc (iList K (tC x)) g tt te js σ H1 Q) : tLc (iList K tl) g tt te js σ H Q := h
theorem hold {u : TS} {D : Ends} {σ : L2.St} {H : Hp} (h : u D σ H) : Hold u D σ H := h
end Pl

namespace Pl
open PySem PySem.Spec PyProof.Rows L2
/-! ### a def called in an except suite that is handed the error itself -/
/-- as L2H.FnH; what it promises may speak of the error at hand, z -/
structure FnZ (P : Program) (w : World) (K : PySem.W.Frag) (mg : Str → Option Value) (base : Heap) (k : Nat) (g : Addr) (gd : FuncData) (qs : List Str) (sp : Addr × Obj → Sp) : Prop where
  len : ∀ z vs H Q E, sp z vs H Q E → vs.length = qs.length
  run : ∀ (z : Addr × Obj) (B : Around) (out : List Env) (t : Shared) (H : Hp) (xs : Args) (us : List Value) (vs : List V) (Q : VK) (E : XK), L2H.RoomH k B → L2H.Hot1 B z → L2H.PinOk out H t z → Env0 P w K mg base B out t H →
    BindsTo t gd xs (qs.zip us) → Vals vs us → sp z vs H Q E → codeAny (model P w) B (.call (.ref g) xs) (CR CX0 out P w H t Q E) t
theorem fnz_of {P : Program} {w : World} {K : PySem.W.Frag} {mg : Str → Option Value} {base : Heap} {k : Nat} {g : Addr} {gd : FuncData} {nm qn : Str} {prm : Arguments} {bdy : List Stmt} {scp : Scope} {M qs : List Str} {sp : Addr × Obj → Sp}
    (F : FunD K nm qn prm bdy scp [] [] g gd) (S : FnScope M qs scp) (len : ∀ z vs H Q E, sp z vs H Q E → vs.length = qs.length)
    (hb : ∀ (cdv : Value) (B : Around) (out : List Env) (t : Shared) (H : Hp) (vs : List V) (Q : VK) (E : XK) (z : Addr × Obj), sp z vs H Q E →
      ∃ r, PSs (L2H.cxH CX0 P w K mg base M qn scp g cdv B out t H E z) bdy r ∧ r { nx := fun _ H' => Q .non H', rt := Q } (L2.start M vs) H) : FnZ P w K mg base (k + 1) g gd qs sp := by
  obtain ⟨oc, od, dV, kV, doc, pm, an, cdv, ct, osl, rfl, lk, hcd, _, _⟩ := F.ex
  refine ⟨len, fun z B out t H xs us vs Q E hroom hhot hz e0 hbd rv hsp => ?_⟩
  have hlen := len _ _ _ _ _ hsp
  have inK : K.In t.heap := e0.mod.kin.keeps fun b o e => (e0.bs b o e).1
  have nol : t.heap.NoLimit := e0.mod.nolimit.keeps fun b o e => (e0.bs b o e).1
  have kinds : ∀ y ∈ qs.zip us, scp.names.lookup y.1 = some .local ∨ (scp.names.lookup y.1 = some .cell ∧ ((cellsFrom (t.heap.objs.size + 1) scp.names []).lookup y.1).isSome = true) := fun ⟨n, v⟩ hy => by
    rcases S.par n (List.of_mem_zip hy).1 with q | q
    · exact .inl q
    · exact .inr ⟨q, PySem.W.cellsFrom_some _ _ _ (.inl q)⟩
  refine codeAny_call_function hroom.depth (inK _ _ lk) rfl S.co S.gen rfl (PySem.W.codeRec_of inK hcd) (hbd _ _ _ _ ?_)
  refine wpAny_newFunctionEnv_cells S.kind kinds fun env he t1 ic => ?_
  subst he
  refine ⟨nol.keeps ic.toInCall.keep, codeAny_func ?_⟩
  obtain ⟨r, hr, hq⟩ := hb cdv B out t H vs Q E z hsp
  have J0 := L2H.inv_startH (CX := CX0) (P := P) (w := w) (K := K) (mg := mg) (base := base) (N := M) (ps := qs) (qual := qn) (scope := scp) (f := g) (cd := cdv) (A := B) (outer := out) (s := t) (s1 := t1) (H := H) (E := E) S hz e0 hlen rv ic
  refine wpAny_mono (hr.run [] t1 (L2.start M vs) H _ J0 hq) (fun fl t' ht => ?_) fun e t' ht => ht
  cases fl with
  | ret u =>
    obtain ⟨v, σ', H', J, rr, q⟩ := ht
    exact ⟨v, H', J.os, J.bare, J.base, J.hok, rr, q⟩
  | next =>
    obtain ⟨σ', H', J, q⟩ := ht
    exact ⟨V.non, H', J.os, J.bare, J.base, J.hok, rfl, q⟩
  | brk => exact ht.elim fun _ ⟨_, _, q⟩ => q.elim
  | cont => exact ht.elim fun _ ⟨_, _, q⟩ => q.elim
section
variable {X : Cx} {k : Nat} {g : Addr} {gd : FuncData} {qs : List Str} {sp : Addr × Obj → Sp} {sp2 : Sp} {y : Str} {q pos : Pos} {a : Expr} {as : List Expr} {r : TA}
theorem pe_callZ {z : Addr × Obj} (F : FnZ X.prog X.w X.K X.mg X.base k g gd qs sp) (hr : L2H.RoomH k X.A) (hz : L2H.Hot1 X.A z) (hp : z ∈ X.pn) (hm : X.mg y = some (.ref g)) (hk : PySem.W.keepIn X.K (.ref g) = true) (hb : Binds X.K gd qs [])
    (hi : ∀ vs H Q, sp2 vs H Q E0 → sp z vs H Q E0) (ha : PA X (a :: as) r) (hg : Gl X y := by rfl) (hdb : (y == ("__debug__" : Str)) = false := by decide) (he : starEach (a :: as) X.env = (false, eval a X.env) :: starEach as X.env := by rfl) (hpl : (backTo pos (starEach as X.env)).any (·.1) = false := by rfl) :
    PE X (.Call (.Name y q) (a :: as) [] pos) (tCallS sp2 (fun _ => E0) r) := by
  refine ⟨fun pins t σ H Q I h => ?_⟩
  refine wpAny_Call_Name_kw (ld_glob I hg hm ?_ hdb)
  refine PySem.W.callWith_K (h₀ := X.base) I.ok.mod.kin hk (thn (ha.run pos pins t σ H _ I h) fun us t1 ⟨vs, H1, I1, rv, hsp2⟩ => ⟨I1.kIn, ?_⟩) he hpl
  have hsp := hi _ _ _ hsp2
  have hlen : us.length = qs.length := by rw [← rv.length]; exact F.len _ _ _ _ _ hsp
  have bd := hb t1 us I1.kIn (by rw [List.append_nil]; exact hlen)
  rw [List.append_nil] at bd
  have P1 := I1.pin z (List.mem_append_left _ hp)
  have pk : L2H.PinOk X.stack H1 t1 z := ⟨P1.1, P1.2.1, fun hm => (List.mem_cons.mp (I1.stkSub z.1 hm)).elim P1.2.2.1 P1.2.2.2.1, P1.2.2.2.2⟩
  refine wpAny_call (codeAny_mono (F.run z X.A X.stack t1 H1 ⟨us, []⟩ us vs Q E0 hr hz pk I1.env0 bd rv hsp) fun o t' ho => ?_)
  cases o with
  | error e => exact ho.elim
  | ok fl =>
    cases fl with
    | ret u => exact I1.after ho
    | next => exact ho.elim
    | brk => exact ho.elim
    | cont => exact ho.elim
end
/-! ### isinstance of that error -/
def rIsZ (K : PySem.W.Frag) (D a : Addr) : List V → Hp → VK → Prop := fun xs H Q => ∃ (c : V) (cv : Value) (b : Bool), xs = [.ref a, c] ∧ (∀ u, RelV c u → u = cv) ∧ PySem.W.kitOne K (.ref D) cv = some b ∧ Q (.bl b) H
theorem call_isZ {X : Cx} {a D : Addr} {oe : Obj} (C : ExcC X.K D) (hp : (a, oe) ∈ X.pn) (hz : Zc (.ref D) none oe) (hf : ∃ vs, oe.data = .fields vs) : CallR X (.builtin "isinstance") (rIsZ X.K D a) := by
  intro pins t σ H xs us Q I r h
  obtain ⟨c, cv, b, rfl, hcv, e, q⟩ := h
  obtain ⟨u1, u2, rfl, r1, r2⟩ := vals2 r
  cases (show u1 = Value.ref a from r1)
  cases hcv _ r2
  have hget := (I.pin (a, oe) (List.mem_append_left _ hp)).1
  obtain ⟨vs, hv⟩ := hf
  have J : PySem.W.InstAt t.heap a oe D none := by
    obtain ⟨oc, od, oda, osl⟩ := oe
    obtain ⟨z1, z2⟩ := hz
    dsimp only at z1 z2 hv
    subst z1 z2 hv
    exact ⟨hget, rfl, rfl, trivial⟩
  exact PySem.W.kia_one (PySem.W.handS_kitx_exc C.hg C.hk C.hs C.hd C.ha C.hn C.ht C.hm) I.kIn J e (fun z => nomatch z) fun tk => ⟨.bl b, H, I.kept (t' := tk) fun _ _ z => z, rfl, q⟩
/-! ### str * 0 or 1 -/
def rRepS : R2 := fun x y H Q => ∃ (z : Str) (k : Int), x = .str z ∧ y = .int k ∧ z.length ≤ 1000 ∧ 0 ≤ k ∧ k ≤ 10 ∧ Q (.str (Txt.mul z k)) H
theorem op_repS {X : Cx} : OpR X (binaryOp .Mult) rRepS := by
  intro pins t σ H x y v u Q I rx ry h
  obtain ⟨z, k, rfl, rfl, hz, h0, h1, q⟩ := h
  obtain ⟨t1, rfl⟩ := (show ∃ t, v = Value.str z t from rx)
  obtain ⟨t2, rfl⟩ := (show ∃ t, u = Value.int k t from ry)
  exact SB.mul (mulOk_of 1048576 16 (by omega) (by omega) (by omega) (by decide) (by decide)) fun t' tk => ⟨.str _, H, I.tok tk, ⟨_, rfl⟩, q⟩
/-! ### the errors' classes -/
def errs : List Err := [.plan, .sign, .count, .figures, .ended]
theorem err_mem (e : Err) : e ∈ errs := by cases e <;> simp [errs]
def pressC (K : PySem.W.Frag) : Addr := He.ga K "PressError"
structure ErrTop (K : PySem.W.Frag) : Prop where
  exc : ∀ e, ExcC K (errC K e)
  kit : ∀ e e', PySem.W.kitOne K (.ref (errC K e)) (.ref (errC K e')) = some (decide (e = e'))
  kitV : ∀ e, PySem.W.kitOne K (.ref (errC K e)) (.type "ValueError") = some true
  exm : ∀ e, PySem.W.exmOne K (.ref (errC K e)) (.ref (pressC K)) = some true
  raise : ∀ e, PySem.W.excIn K (errC K e) He.veBase "ValueError.__new__" = true ∧ PySem.W.keepIn K (.ref (errC K e)) = true ∧ PySem.W.subIn K (.ref (errC K e)) (.type "BaseException") = some true ∧ PySem.W.typeIn K (.ref (errC K e)) = some (.type "type")
def errB1 (K : PySem.W.Frag) (C : Addr) : Bool :=
  He.eqO (PySem.W.findIn K (.ref C) "__getattribute__") (some (some (.builtin "BaseException.__getattribute__"))) && (He.eqO (PySem.W.findIn K (.ref C) "__getattr__") (some none) &&
  (decide (PySem.W.subIn K (.ref C) (.type "BaseException") = some true) && (PySem.W.hasDictIn K C && (He.eqO (PySem.W.findIn K (.ref C) "__class__") (some (some (.builtin "object.__class__"))) &&
  (He.eqO (PySem.W.specialIn K (.builtin "object.__class__") "__get__") (some (some (.builtin "getset_descriptor.__get__"))) && (decide (PySem.W.takesIn K (.builtin "object.__class__") = some true) && decide (PySem.W.mroIn K C (.type "object") = some true)))))))
def errB (K : PySem.W.Frag) : Bool := errs.all fun e => errB1 K (errC K e) && ((errs.all fun e' => decide (PySem.W.kitOne K (.ref (errC K e)) (.ref (errC K e')) = some (decide (e = e')))) &&
  (decide (PySem.W.kitOne K (.ref (errC K e)) (.type "ValueError") = some true) && (decide (PySem.W.exmOne K (.ref (errC K e)) (.ref (pressC K)) = some true) &&
  (PySem.W.excIn K (errC K e) He.veBase "ValueError.__new__" && (PySem.W.keepIn K (.ref (errC K e)) && (decide (PySem.W.subIn K (.ref (errC K e)) (.type "BaseException") = some true) && decide (PySem.W.typeIn K (.ref (errC K e)) = some (.type "type"))))))))
theorem errB1_ok {K : PySem.W.Frag} {C : Addr} (h : errB1 K C = true) : ExcC K C := by
  obtain ⟨h1, h⟩ := He.ba h
  obtain ⟨h2, h⟩ := He.ba h
  obtain ⟨h3, h⟩ := He.ba h
  obtain ⟨h4, h⟩ := He.ba h
  obtain ⟨h5, h⟩ := He.ba h
  obtain ⟨h6, h⟩ := He.ba h
  obtain ⟨h7, h8⟩ := He.ba h
  exact ⟨He.eqO_ok h1, He.eqO_ok h2, of_decide_eq_true h3, h4, He.eqO_ok h5, He.eqO_ok h6, of_decide_eq_true h7, of_decide_eq_true h8⟩
theorem errB_ok {K : PySem.W.Frag} (h : errB K = true) : ErrTop K := by
  have key := fun e => List.all_eq_true.mp h e (err_mem e)
  refine ⟨fun e => errB1_ok (He.ba (key e)).1, fun e e' => ?_, fun e => ?_, fun e => ?_, fun e => ?_⟩
  · exact of_decide_eq_true (List.all_eq_true.mp (He.ba (He.ba (key e)).2).1 e' (err_mem e'))
  · exact of_decide_eq_true (He.ba (He.ba (He.ba (key e)).2).2).1
  · exact of_decide_eq_true (He.ba (He.ba (He.ba (He.ba (key e)).2).2).2).1
  · obtain ⟨h1, h⟩ := He.ba (He.ba (He.ba (He.ba (He.ba (key e)).2).2).2).2
    obtain ⟨h2, h⟩ := He.ba h
    obtain ⟨h3, h4⟩ := He.ba h
    exact ⟨h1, h2, of_decide_eq_true h3, of_decide_eq_true h4⟩
def wordOf : Err → Str
  | .plan => "plan"
  | .sign => "sign"
  | .count => "count"
  | .figures => "figures"
  | .ended => "ended"
def bit (b : Bool) : Int := if b then 1 else 0
theorem rep_bit (b : Bool) (xs : List V) : (List.replicate (bit b).toNat xs).flatten = if b then xs else [] := by
  cases b
  · rfl
  · show (List.replicate 1 xs).flatten = xs
    simp
/-! ### a try that catches what is told of the top, its suite handing the error on -/
theorem takesN0 {X : Cx} : L2N.Takes X (fun _ _ _ _ => False) := fun _ _ x => by
  obtain ⟨_, _, _, _, _, _, _, _, _, _, _, _, _, _, _, _, z⟩ := x
  exact z.elim
theorem roomH_of {k : Nat} {A : Around} {v : Option Value} (r : Room k A) : L2H.RoomH k (A.mark v) := ⟨r.dp, r.un⟩
theorem hot_of {A : Around} {a : Addr} {oe : Obj} {cls : Value} {d : Option Addr} (hz : L2N.Zn cls d oe) (hf : ∃ vs, oe.data = .fields vs) : L2H.Hot1 (A.mark (some (.ref a))) (a, oe) := by
  obtain ⟨vs, e⟩ := hf
  exact ⟨rfl, vs, e, hz.2.2 vs e⟩
end Pl

namespace Pl
open PySem PySem.Spec PyProof.Rows L2
theorem dpa_take {K : PySem.W.Frag} {H : Hp} : ∀ {n : Nat} {vs : List V} {ds : List PyData}, DpAll K H vs ds → DpAll K H (vs.take n) (ds.take n)
  | 0, _, _, _ => .nil
  | _ + 1, _, [], h => by cases h; exact .nil
  | n + 1, _, _ :: _, h => by
    cases h with
    | cons a b => exact .cons a (dpa_take b)
theorem dpa_drop {K : PySem.W.Frag} {H : Hp} : ∀ {n : Nat} {vs : List V} {ds : List PyData}, DpAll K H vs ds → DpAll K H (vs.drop n) (ds.drop n)
  | 0, _, _, h => h
  | _ + 1, _, [], h => by cases h; exact .nil
  | n + 1, _, _ :: _, h => by
    cases h with
    | cons a b => exact dpa_drop (n := n) b
/-! ### what comes of an expression, as data; what stood stays -/
def EvD (K : PySem.W.Frag) (te : TE) (σ : L2.St) (H : Hp) (d : PyData) : Prop := ∀ H1 (Q : VK), Same H H1 → (∀ v H2, Same H1 H2 → Dp K H2 v d → Q v H2) → te σ H1 Q
def EvDs (K : PySem.W.Frag) (ta : TA) (σ : L2.St) (H : Hp) (ds : List PyData) : Prop := ∀ H1 (Q : List V → Hp → Prop), Same H H1 → (∀ vs H2, Same H1 H2 → DpAll K H2 vs ds → Q vs H2) → ta σ H1 Q
/-- a plain value -/
def EvV (te : TE) (σ : L2.St) (H : Hp) (v : V) : Prop := ∀ H1 (Q : VK), Same H H1 → (∀ H2, Same H1 H2 → Q v H2) → te σ H1 Q
/-- a list that is tracked -/
def EvK (K : PySem.W.Frag) (te : TE) (σ : L2.St) (H : Hp) (ds : List PyData) : Prop := ∀ H1 (Q : VK), Same H H1 → (∀ p vs H2, Same H1 H2 → H2 p = some (.lst vs) → DpAll K H2 vs ds → Q (.ref p) H2) → te σ H1 Q
/-- a new list -/
def EvO (K : PySem.W.Frag) (te : TE) (σ : L2.St) (H : Hp) (ds : List PyData) : Prop := ∀ H1 (Q : VK), Same H H1 → (∀ p vs H2, H1 p = none → Same H1 H2 → H2 p = some (.lst vs) → DpAll K H2 vs ds → Q (.ref p) H2) → te σ H1 Q
section
variable {K : PySem.W.Frag} {te ta tb : TE} {tas tr : TA} {σ : L2.St} {H H' : Hp} {d e : PyData} {ds es : List PyData} {v x y : V} {i : Nat}
theorem EvD.mono (s : Same H H') (h : EvD K te σ H d) : EvD K te σ H' d := fun H1 Q s1 k => h H1 Q (s.trans s1) k
theorem EvO.mono (s : Same H H') (h : EvO K te σ H ds) : EvO K te σ H' ds := fun H1 Q s1 k => h H1 Q (s.trans s1) k
theorem EvK.mono (s : Same H H') (h : EvK K te σ H ds) : EvK K te σ H' ds := fun H1 Q s1 k => h H1 Q (s.trans s1) k
theorem EvV.mono (s : Same H H') (h : EvV te σ H v) : EvV te σ H' v := fun H1 Q s1 k => h H1 Q (s.trans s1) k
theorem EvO.k (h : EvO K te σ H ds) : EvK K te σ H ds := fun H1 Q s1 k => h H1 Q s1 fun p vs H2 _ s2 e2 d2 => k p vs H2 s2 e2 d2
theorem EvK.dat (h : EvK K te σ H ds) : EvD K te σ H (.list ds) := fun H1 Q s1 k => h H1 Q s1 fun p vs H2 s2 e2 d2 => k _ H2 s2 (.lst (.inl (.inl e2)) d2)
theorem EvV.dat (h : EvV te σ H v) (hd : ∀ H2, Same H H2 → Dp K H2 v d) : EvD K te σ H d := fun H1 Q s1 k => h H1 Q s1 fun H2 s2 => k v H2 s2 (hd H2 (s1.trans s2))
theorem EvV.int {n : Int} (h : EvV te σ H (.int n)) : EvD K te σ H (.int n) := h.dat fun _ _ => .int n
theorem EvV.bool {b : Bool} (h : EvV te σ H (.bl b)) : EvD K te σ H (.bool b) := h.dat fun _ _ => .bl b
theorem EvD.v_int {n : Int} (h : EvD K te σ H (.int n)) : EvV te σ H (.int n) := fun H1 Q s1 k => h H1 Q s1 fun v H2 s2 d2 => by rw [dp_int d2]; exact k H2 s2
theorem ev_var (h : σ[i]? = some (some v)) : EvV (tVar i) σ H v := fun H1 Q _ k => ⟨v, h, k H1 (Same.refl H1)⟩
theorem ev_c : EvV (tC v) σ H v := fun H1 Q _ k => k H1 (Same.refl H1)
/-- by the reading itself, where nothing new is made -/
theorem ev_v (h : ∀ H1 (Q : VK), Same H H1 → Q v H1 → te σ H1 Q) : EvV te σ H v := fun H1 Q s1 k => h H1 Q s1 (k H1 (Same.refl H1))
theorem evd_var (h : σ[i]? = some (some v)) (hd : Dp K H v d) : EvD K (tVar i) σ H d := (ev_var h).dat fun H2 s => dp_same s _ _ hd
theorem evd_int {n : Int} : EvD K (tC (.int n)) σ H (.int n) := ev_c.dat fun _ _ => .int n
theorem evd_bl {b : Bool} : EvD K (tC (.bl b)) σ H (.bool b) := ev_c.dat fun _ _ => .bl b
theorem evd_str {z : Str} : EvD K (tC (.str z)) σ H (.str z) := ev_c.dat fun _ _ => .str z
theorem evd_non : EvD K (tC .non) σ H .none := ev_c.dat fun _ _ => .non
theorem eds_nil : EvDs K tNil σ H [] := fun H1 Q _ k => k [] H1 (Same.refl H1) .nil
theorem eds_cons (h : EvD K te σ H d) (hr : EvDs K tr σ H ds) : EvDs K (tCons te tr) σ H (d :: ds) := fun H1 Q s1 k => h H1 _ s1 fun v H2 s2 d2 => hr H2 _ (s1.trans s2) fun vs H3 s3 d3 => k _ H3 (s2.trans s3) (.cons (dp_same s3 _ _ d2) d3)
theorem evd_tup (h : EvDs K tas σ H ds) (hl : ds.length ≤ 100000) : EvD K (tTup tas) σ H (.tuple ds) := fun H1 Q s1 k => h H1 _ s1 fun vs H2 s2 d2 =>
  ⟨by rw [dpa_len d2]; exact Nat.le_trans hl (by decide), fun p np => k _ _ (s2.trans (same_upd np)) (.tup (.inl (.inl upd_same)) (dpa_same (same_upd np) _ _ d2))⟩
theorem evo_lst (h : EvDs K tas σ H ds) (hl : ds.length ≤ 100000) : EvO K (tLst tas) σ H ds := fun H1 Q s1 k => h H1 _ s1 fun vs H2 s2 d2 =>
  ⟨by rw [dpa_len d2]; exact Nat.le_trans hl (by decide), fun p np => k p vs _ (s2.free np) (s2.trans (same_upd np)) upd_same (dpa_same (same_upd np) _ _ d2)⟩
theorem evk_var {p : Addr} {vs : List V} (h : σ[i]? = some (some (.ref p))) (he : H p = some (.lst vs)) (hd : DpAll K H vs ds) : EvK K (tVar i) σ H ds := fun H1 Q s1 k =>
  ⟨_, h, k p vs H1 (Same.refl H1) (s1 _ _ he) (dpa_same s1 _ _ hd)⟩
theorem evo_cat (ha : EvK K ta σ H ds) (hb : EvK K tb σ H es) (hl : ds.length + es.length ≤ 100000) : EvO K (tOp rCat ta tb) σ H (ds ++ es) := fun H1 Q s1 k =>
  ha H1 _ s1 fun p vs H2 s2 e2 d2 => hb H2 _ (s1.trans s2) fun q us H3 s3 e3 d3 => ⟨p, q, vs, us, rfl, rfl, s3 _ _ e2, e3, by rw [dpa_len d2, dpa_len d3]; exact Nat.le_trans hl (by decide), fun l nl =>
    k l _ _ ((s2.trans s3).free nl) ((s2.trans s3).trans (same_upd nl)) upd_same (dpa_app (dpa_same (s3.trans (same_upd nl)) _ _ d2) (dpa_same (same_upd nl) _ _ d3))⟩
/-- a comprehension over a list -/
theorem evo_lc {j : Nat} {tt : TT} {w : PyData} (keep : PyData → Bool) (g : PyData → PyData) (hs : EvK K te σ H ds) (hz : ds.length ≤ 100000)
    (ht : ∀ x d H1 (R : Bool → Hp → Prop), d ∈ ds → Same H H1 → Dp K H1 x d → (∀ H2, Same H1 H2 → R (keep d) H2) → tt ((wipe σ [j]).set j (some x)) H1 R)
    (he : ∀ x d H1 D (R : VK), d ∈ ds → keep d = true → Same H H1 → Dp K (erase D H1) x d → (∃ acc, H1 D = some (.lst acc)) → Same H (erase D H1) → (∀ y H2, Same H1 H2 → Dp K (erase D H2) y (g d) → R y H2) → tb ((wipe σ [j]).set j (some x)) H1 R) :
    EvO K (tLc (iList K te) (gName j) tt tb [j]) σ H ((ds.filter keep).map g) := fun H1 Q s1 k => by
  refine lc_src (hs H1 _ s1 fun p vs H2 s2 e2 d2 => ?_)
  have hl := dpa_len d2
  refine lc_dpL (fun n => keep (ds.getD n w)) (fun n => g (ds.getD n w)) (fun R h => h) (.inl (.inl e2)) (by omega) (fun n x H3 R e3 s3 k3 => ?_) (fun n x H3 D R e3 kp hD hacc s3 k3 => ?_) (fun D acc H3 hD s3 e3 d3 => ?_)
  · obtain ⟨d, ed, hx⟩ := dpa_get2 d2 e3
    rw [getD_of ed] at k3
    exact ht x d H3 R (List.mem_of_getElem? ed) ((s1.trans s2).trans s3) (dp_same s3 _ _ hx) k3
  · obtain ⟨d, ed, hx⟩ := dpa_get2 d2 e3
    rw [getD_of ed] at k3 kp
    exact he x d H3 D R (List.mem_of_getElem? ed) kp ((s1.trans s2).trans s3) (dp_same (same_erase s3 hD) _ _ hx) hacc ((s1.trans s2).trans (same_erase s3 hD)) k3
  · refine k D acc H3 (s2.free hD) (s2.trans s3) e3 ?_
    have e0 : (List.range ds.length).map (fun n => ds.getD n w) = ds := by
      have := range_get ds (fun d => d) w
      rw [List.map_id'] at this
      exact this
    have ez : ((List.range vs.length).filter fun n => keep (ds.getD n w)).map (fun n => g (ds.getD n w)) = (ds.filter keep).map g := by
      rw [hl]
      calc ((List.range ds.length).filter fun n => keep (ds.getD n w)).map (fun n => g (ds.getD n w))
          = (((List.range ds.length).filter (keep ∘ fun n => ds.getD n w)).map (fun n => ds.getD n w)).map g := by rw [List.map_map]; rfl
        _ = (((List.range ds.length).map (fun n => ds.getD n w)).filter keep).map g := by rw [List.filter_map]
        _ = (ds.filter keep).map g := by rw [e0]
    rw [ez] at d3
    exact d3
theorem evd_ix {n : Int} (ha : EvD K ta σ H (.list ds)) (hb : EvV tb σ H (.int n)) (h0 : 0 ≤ n) (he : ds[n.toNat]? = some d) : EvD K (tOp (rIxL K) ta tb) σ H d := fun H1 Q s1 k =>
  ha H1 _ s1 fun v H2 s2 d2 => hb H2 _ (s1.trans s2) fun H3 s3 => by
    cases d2 with
    | lst hs ha =>
      obtain ⟨u, eu, hu⟩ := dpa_get ha he
      exact ⟨_, _, n, u, rfl, rfl, s3.seq hs, at_of (j := n.toNat) (by omega) eu, k u H3 (s2.trans s3) (dp_same s3 _ _ hu)⟩
theorem evd_ixT {n : Int} (ha : EvD K ta σ H (.tuple ds)) (hb : EvV tb σ H (.int n)) (h0 : 0 ≤ n) (he : ds[n.toNat]? = some d) : EvD K (tOp (rIxT K) ta tb) σ H d := fun H1 Q s1 k =>
  ha H1 _ s1 fun v H2 s2 d2 => hb H2 _ (s1.trans s2) fun H3 s3 => by
    cases d2 with
    | tup hs ha =>
      obtain ⟨u, eu, hu⟩ := dpa_get ha he
      exact ⟨_, _, n, u, rfl, rfl, same_t s3 hs, at_of (j := n.toNat) (by omega) eu, k u H3 (s2.trans s3) (dp_same s3 _ _ hu)⟩
/-- two ints in -/
theorem ev_op {C : Int → Int → Prop} {g : Int → Int → V} {n m : Int} (ha : EvV ta σ H (.int n)) (hb : EvV tb σ H (.int m)) (hc : C n m) : EvV (tOp (rI C g) ta tb) σ H (g n m) := fun H1 Q s1 k =>
  ha H1 _ s1 fun H2 s2 => hb H2 _ (s1.trans s2) fun H3 s3 => ⟨n, m, rfl, rfl, hc, k H3 (s2.trans s3)⟩
theorem ev_op0 {g : Int → Int → V} {n m : Int} (ha : EvV ta σ H (.int n)) (hb : EvV tb σ H (.int m)) : EvV (tOp (rI0 g) ta tb) σ H (g n m) := fun H1 Q s1 k =>
  ha H1 _ s1 fun H2 s2 => hb H2 _ (s1.trans s2) fun H3 s3 => ⟨n, m, rfl, rfl, k H3 (s2.trans s3)⟩
theorem ev_neg {n : Int} (ha : EvV ta σ H (.int n)) : EvV (tUn (rU fun i => .int (-i)) ta) σ H (.int (-n)) := fun H1 Q s1 k => ha H1 _ s1 fun H2 s2 => ⟨n, rfl, k H2 s2⟩
theorem evd_listOf (ha : EvD K ta σ H (.tuple ds)) : EvO K (tCB (rListK K) (tCons ta tNil)) σ H ds := fun H1 Q s1 k => ha H1 _ s1 fun v H2 s2 d2 => by
  cases d2 with
  | tup hs ha => exact ⟨_, _, rfl, .inr hs, fun l nl => k l _ _ (s2.free nl) (s2.trans (same_upd nl)) upd_same (dpa_same (same_upd nl) _ _ ha)⟩
theorem evd_listOfL (ha : EvD K ta σ H (.list ds)) : EvO K (tCB (rListK K) (tCons ta tNil)) σ H ds := fun H1 Q s1 k => ha H1 _ s1 fun v H2 s2 d2 => by
  cases d2 with
  | lst hs ha => exact ⟨_, _, rfl, .inl hs, fun l nl => k l _ _ (s2.free nl) (s2.trans (same_upd nl)) upd_same (dpa_same (same_upd nl) _ _ ha)⟩
theorem evd_tupOf (ha : EvD K ta σ H (.list ds)) : EvD K (tCB (rTupK K) (tCons ta tNil)) σ H (.tuple ds) := fun H1 Q s1 k => ha H1 _ s1 fun v H2 s2 d2 => by
  cases d2 with
  | lst hs ha => exact ⟨_, _, rfl, .inl ⟨hs, fun l nl => k _ _ (s2.trans (same_upd nl)) (.tup (.inl (.inl upd_same)) (dpa_same (same_upd nl) _ _ ha))⟩⟩
theorem evd_catT (ha : EvD K ta σ H (.tuple ds)) (hb : EvD K tb σ H (.tuple es)) (hl : ds.length + es.length ≤ 100000) : EvD K (tOp (rCatA K) ta tb) σ H (.tuple (ds ++ es)) := fun H1 Q s1 k =>
  ha H1 _ s1 fun v H2 s2 d2 => hb H2 _ (s1.trans s2) fun u H3 s3 d3 => by
    cases d2 with
    | tup h1 a1 =>
      cases d3 with
      | tup h2 a2 =>
        refine catT (same_t s3 h1) h2 (by rw [dpa_len a1, dpa_len a2]; exact hl) fun p H4 s4 h4 => ?_
        exact k _ H4 ((s2.trans s3).trans s4) (.tup h4 (dpa_app (dpa_same (s3.trans s4) _ _ a1) (dpa_same s4 _ _ a2)))
/-! ### statements -/
variable {u : TS} {D : Ends}
theorem asgO (h : EvO K te σ H ds) (k : ∀ p vs H1, H p = none → Same H H1 → H1 p = some (.lst vs) → DpAll K H1 vs ds → u D (σ.set i (some (.ref p))) H1) : tSeq (tAsg te (gName i)) u D σ H := h H _ (Same.refl H) fun p vs H1 np s e d => k p vs H1 np s e d
theorem asgD (h : EvD K te σ H d) (k : ∀ v H1, Same H H1 → Dp K H1 v d → u D (σ.set i (some v)) H1) : tSeq (tAsg te (gName i)) u D σ H := h H _ (Same.refl H) fun v H1 s d => k v H1 s d
theorem asgV (h : EvV te σ H v) (k : ∀ H1, Same H H1 → u D (σ.set i (some v)) H1) : tSeq (tAsg te (gName i)) u D σ H := h H _ (Same.refl H) fun H1 s => k H1 s
theorem retD (h : EvD K te σ H d) (k : ∀ v H1, Same H H1 → Dp K H1 v d → D.rt v H1) : tRet te D σ H := h H _ (Same.refl H) fun v H1 s d => k v H1 s d
theorem retV (h : EvV te σ H v) (k : ∀ H1, Same H H1 → D.rt v H1) : tRet te D σ H := h H _ (Same.refl H) fun H1 s => k H1 s
/-! ### the elements of a comprehension: data, none of it by way of the list that is made -/
end
/-- as EvD; what comes does not hang on what stands at D -/
def EvX (K : PySem.W.Frag) (D : Addr) (te : TE) (σ : L2.St) (H : Hp) (d : PyData) : Prop := ∀ H1 (Q : VK), Same H H1 → (∀ v H2, Same H1 H2 → Dp K (erase D H2) v d → Q v H2) → te σ H1 Q
def EvXs (K : PySem.W.Frag) (D : Addr) (ta : TA) (σ : L2.St) (H : Hp) (ds : List PyData) : Prop := ∀ H1 (Q : List V → Hp → Prop), Same H H1 → (∀ vs H2, Same H1 H2 → DpAll K (erase D H2) vs ds → Q vs H2) → ta σ H1 Q
section
variable {K : PySem.W.Frag} {D : Addr} {te ta tb : TE} {tas tr : TA} {σ : L2.St} {H : Hp} {d e : PyData} {ds es : List PyData} {v : V} {i : Nat}
theorem exv (h : EvV te σ H v) (hd : ∀ H2, Same H H2 → Dp K (erase D H2) v d) : EvX K D te σ H d := fun H1 Q s1 k => h H1 Q s1 fun H2 s2 => k v H2 s2 (hd H2 (s1.trans s2))
theorem exv_var (h : σ[i]? = some (some v)) (hd : Dp K (erase D H) v d) : EvX K D (tVar i) σ H d := exv (ev_var h) fun H2 s => dp_same (erase_mono s) _ _ hd
theorem exs_nil : EvXs K D tNil σ H [] := fun H1 Q _ k => k [] H1 (Same.refl H1) .nil
theorem exs_cons (h : EvX K D te σ H d) (hr : EvXs K D tr σ H ds) : EvXs K D (tCons te tr) σ H (d :: ds) := fun H1 Q s1 k => h H1 _ s1 fun v H2 s2 d2 => hr H2 _ (s1.trans s2) fun vs H3 s3 d3 => k _ H3 (s2.trans s3) (.cons (dp_same (erase_mono s3) _ _ d2) d3)
theorem exv_tup (hD : ∃ acc, H D = some (.lst acc)) (h : EvXs K D tas σ H ds) (hl : ds.length ≤ 100000) : EvX K D (tTup tas) σ H (.tuple ds) := fun H1 Q s1 k => h H1 _ s1 fun vs H2 s2 d2 =>
  ⟨by rw [dpa_len d2]; exact Nat.le_trans hl (by decide), fun p np => k _ _ (s2.trans (same_upd np)) (.tup (sqt_erase (by obtain ⟨acc, e⟩ := hD; exact ⟨acc, ((s1.trans s2).trans (same_upd np)) _ _ e⟩) (.inl (.inl upd_same))) (dpa_same (erase_mono (same_upd np)) _ _ d2))⟩
theorem exv_catT (hD : ∃ acc, H D = some (.lst acc)) (ha : EvX K D ta σ H (.tuple ds)) (hb : EvX K D tb σ H (.tuple es)) (hl : ds.length + es.length ≤ 100000) : EvX K D (tOp (rCatA K) ta tb) σ H (.tuple (ds ++ es)) := fun H1 Q s1 k =>
  ha H1 _ s1 fun v H2 s2 d2 => hb H2 _ (s1.trans s2) fun u H3 s3 d3 => by
    cases d2 with
    | tup h1 a1 =>
      cases d3 with
      | tup h2 a2 =>
        obtain ⟨acc, e⟩ := hD
        refine catT (same_t ((erase_same D H2).trans s3) h1) (same_t (erase_same D H3) h2) (by rw [dpa_len a1, dpa_len a2]; exact hl) fun p H4 s4 h4 => ?_
        exact k _ H4 ((s2.trans s3).trans s4) (.tup (sqt_erase ⟨acc, (((s1.trans s2).trans s3).trans s4) _ _ e⟩ h4) (dpa_app (dpa_same (erase_mono (s3.trans s4)) _ _ a1) (dpa_same (erase_mono s4) _ _ a2)))
end
/-! ### slices -/
section
variable {K : PySem.W.Frag} {te ta tb : TE} {σ : L2.St} {H : Hp} {ds : List PyData} {n : Int}
theorem evd_take (h : EvD K te σ H (.tuple ds)) (hn : EvV ta σ H (.int n)) (h0 : 0 ≤ n) (h1 : n ≤ ds.length) : EvD K (tSl (rSlA K) te tNoPart (tPart ta)) σ H (.tuple (ds.take n.toNat)) := fun H1 Q s1 k =>
  h H1 _ s1 fun v H2 s2 d2 => hn H2 _ (s1.trans s2) fun H3 s3 => ⟨n, rfl, by
    cases d2 with
    | tup hs ha =>
      refine slT_take (same_t s3 hs) h0 (by rw [dpa_len ha]; exact h1) fun p H4 s4 h4 => ?_
      exact k _ H4 ((s2.trans s3).trans s4) (.tup h4 (dpa_take (dpa_same (s3.trans s4) _ _ ha)))⟩
theorem evd_drop (h : EvD K te σ H (.tuple ds)) (hn : EvV ta σ H (.int n)) (h0 : 0 ≤ n) (h1 : n ≤ ds.length) : EvD K (tSl (rSlA K) te (tPart ta) tNoPart) σ H (.tuple (ds.drop n.toNat)) := fun H1 Q s1 k =>
  h H1 _ s1 fun v H2 s2 d2 => hn H2 _ (s1.trans s2) fun H3 s3 => ⟨n, rfl, by
    cases d2 with
    | tup hs ha =>
      refine slT_drop (same_t s3 hs) h0 (by rw [dpa_len ha]; exact h1) fun p H4 s4 h4 => ?_
      exact k _ H4 ((s2.trans s3).trans s4) (.tup h4 (dpa_drop (dpa_same (s3.trans s4) _ _ ha)))⟩
end
section
variable {K : PySem.W.Frag} {D : Addr} {te ta tb : TE} {σ : L2.St} {H : Hp} {ds : List PyData} {n : Int}
theorem exv_take (hD : ∃ acc, H D = some (.lst acc)) (h : EvX K D te σ H (.tuple ds)) (hn : EvV ta σ H (.int n)) (h0 : 0 ≤ n) (h1 : n ≤ ds.length) : EvX K D (tSl (rSlA K) te tNoPart (tPart ta)) σ H (.tuple (ds.take n.toNat)) := fun H1 Q s1 k =>
  h H1 _ s1 fun v H2 s2 d2 => hn H2 _ (s1.trans s2) fun H3 s3 => ⟨n, rfl, by
    cases d2 with
    | tup hs ha =>
      obtain ⟨acc, e⟩ := hD
      refine slT_take (same_t ((erase_same D H2).trans s3) hs) h0 (by rw [dpa_len ha]; exact h1) fun p H4 s4 h4 => ?_
      exact k _ H4 ((s2.trans s3).trans s4) (.tup (sqt_erase ⟨acc, (((s1.trans s2).trans s3).trans s4) _ _ e⟩ h4) (dpa_take (dpa_same (erase_mono (s3.trans s4)) _ _ ha)))⟩
theorem exv_drop (hD : ∃ acc, H D = some (.lst acc)) (h : EvX K D te σ H (.tuple ds)) (hn : EvV ta σ H (.int n)) (h0 : 0 ≤ n) (h1 : n ≤ ds.length) : EvX K D (tSl (rSlA K) te (tPart ta) tNoPart) σ H (.tuple (ds.drop n.toNat)) := fun H1 Q s1 k =>
  h H1 _ s1 fun v H2 s2 d2 => hn H2 _ (s1.trans s2) fun H3 s3 => ⟨n, rfl, by
    cases d2 with
    | tup hs ha =>
      obtain ⟨acc, e⟩ := hD
      refine slT_drop (same_t ((erase_same D H2).trans s3) hs) h0 (by rw [dpa_len ha]; exact h1) fun p H4 s4 h4 => ?_
      exact k _ H4 ((s2.trans s3).trans s4) (.tup (sqt_erase ⟨acc, (((s1.trans s2).trans s3).trans s4) _ _ e⟩ h4) (dpa_drop (dpa_same (erase_mono (s3.trans s4)) _ _ ha)))⟩
theorem dpa_rep {K : PySem.W.Frag} {H : Hp} {vs : List V} {ds : List PyData} (h : DpAll K H vs ds) : ∀ n : Nat, DpAll K H (List.replicate n vs).flatten (List.replicate n ds).flatten
  | 0 => .nil
  | n + 1 => by
    rw [List.replicate_succ, List.replicate_succ, List.flatten_cons, List.flatten_cons]
    exact dpa_app h (dpa_rep h n)
theorem evd_repT {m : Int} (h : EvD K ta σ H (.tuple ds)) (hn : EvV tb σ H (.int m)) (h0 : ds ≠ []) (h1 : 2 ≤ m) (h2 : m ≤ 1000) (h3 : ds.length ≤ 1000) : EvD K (tOp (rRepT K) ta tb) σ H (.tuple (List.replicate m.toNat ds).flatten) := fun H1 Q s1 k =>
  h H1 _ s1 fun v H2 s2 d2 => hn H2 _ (s1.trans s2) fun H3 s3 => by
    cases d2 with
    | tup hs ha =>
      have hl := dpa_len ha
      refine ⟨_, m, _, rfl, rfl, same_t s3 hs, fun z => h0 ?_, h1, h2, by omega, fun p np => k _ _ ((s2.trans s3).trans (same_upd np)) (.tup (.inl (.inl upd_same)) (dpa_rep (dpa_same (s3.trans (same_upd np)) _ _ ha) _))⟩
      rw [z] at hl
      exact List.length_eq_zero_iff.mp hl.symm
end
/-! ### tests -/
def EvB (tt : TT) (σ : L2.St) (H : Hp) (b : Bool) : Prop := ∀ H1 (R : Bool → Hp → Prop), Same H H1 → (∀ H2, Same H1 H2 → R b H2) → tt σ H1 R
section
variable {K : PySem.W.Frag} {te ta tb : TE} {tt tu : TT} {tas tr : TA} {σ : L2.St} {H H' : Hp} {d e : PyData} {ds es : List PyData} {v x y : V} {i : Nat} {a b : Bool} {u w : TS} {D : Ends}
theorem EvB.mono (s : Same H H') (h : EvB tt σ H b) : EvB tt σ H' b := fun H1 Q s1 k => h H1 Q (s.trans s1) k
theorem EvB.is (h : EvB tt σ H a) (e : a = b) : EvB tt σ H b := e ▸ h
theorem EvV.is (h : EvV te σ H x) (e : x = y) : EvV te σ H y := e ▸ h
theorem evb_test (h : EvV te σ H (.bl b)) : EvB (tTest te) σ H b := fun H1 R s1 k => h H1 _ s1 fun H2 s2 => ⟨b, rfl, k H2 s2⟩
theorem evb_b (h : EvV te σ H (.bl b)) : EvB (tB te) σ H b := fun H1 R s1 k => h H1 _ s1 fun H2 s2 => ⟨b, rfl, k H2 s2⟩
theorem evb_not (h : EvB tt σ H a) : EvB (tNot tt) σ H (!a) := fun H1 R s1 k => h H1 _ s1 fun H2 s2 => k H2 s2
theorem evb_or (h : EvB tt σ H a) (h2 : a = false → EvB tu σ H b) : EvB (tOr tt tu) σ H (a || b) := fun H1 R s1 k => h H1 _ s1 fun H2 s2 => by
  cases a with
  | true => exact iteT (k H2 s2)
  | false => exact iteF (h2 rfl H2 R (s1.trans s2) fun H3 s3 => k H3 (s2.trans s3))
theorem evb_and (h : EvB tt σ H a) (h2 : a = true → EvB tu σ H b) : EvB (tAnd tt tu) σ H (a && b) := fun H1 R s1 k => h H1 _ s1 fun H2 s2 => by
  cases a with
  | true => exact iteT (h2 rfl H2 R (s1.trans s2) fun H3 s3 => k H3 (s2.trans s3))
  | false => exact iteF (k H2 s2)
theorem ev_and (h : EvV ta σ H (.bl a)) (h2 : a = true → EvV tb σ H (.bl b)) : EvV (tAndV ta tb) σ H (.bl (a && b)) := fun H1 Q s1 k => h H1 _ s1 fun H2 s2 => ⟨a, rfl, by
  cases a with
  | true => exact iteT (h2 rfl H2 Q (s1.trans s2) fun H3 s3 => k H3 (s2.trans s3))
  | false => exact iteF (k H2 s2)⟩
theorem ev_or (h : EvV ta σ H (.bl a)) (h2 : a = false → EvV tb σ H (.bl b)) : EvV (tOrV ta tb) σ H (.bl (a || b)) := fun H1 Q s1 k => h H1 _ s1 fun H2 s2 => ⟨a, rfl, by
  cases a with
  | true => exact iteT (k H2 s2)
  | false => exact iteF (h2 rfl H2 Q (s1.trans s2) fun H3 s3 => k H3 (s2.trans s3))⟩
theorem ev_not (h : EvV ta σ H (.bl a)) : EvV (tNotV ta) σ H (.bl (!a)) := fun H1 Q s1 k => h H1 _ s1 fun H2 s2 => ⟨a, rfl, k H2 s2⟩
theorem ev_chain {C C' : Int → Int → Prop} {f f' : Int → Int → Bool} {tc : TE} {n m q : Int} (ha : EvV ta σ H (.int n)) (hb : EvV tb σ H (.int m)) (hc : EvV tc σ H (.int q)) : EvV (tChain (rI0 fun i j => .bl (f i j)) (rI0 fun i j => .bl (f' i j)) ta tb tc) σ H (.bl (f n m && f' m q)) := fun H1 Q s1 k =>
  ha H1 _ s1 fun H2 s2 => hb H2 _ (s1.trans s2) fun H3 s3 => ⟨n, m, rfl, rfl, f n m, rfl, by
    cases e : f n m with
    | true =>
      rw [e] at k
      exact iteT (hc H3 _ ((s1.trans s2).trans s3) fun H4 s4 => ⟨m, q, rfl, rfl, k H4 ((s2.trans s3).trans s4)⟩)
    | false =>
      rw [e] at k
      exact iteF (k H3 (s2.trans s3))⟩
theorem ev_is {U : String} (h : EvD K te σ H d) (hU : U ∈ ["int", "bool", "tuple", "list"]) : EvV (tCB (rIsD K) (tCons te (tCons (tC (.ty U)) tNil))) σ H (.bl (isD d U)) := fun H1 Q s1 k => h H1 _ s1 fun v H2 s2 d2 => ⟨v, d, U, rfl, d2, hU, k H2 s2⟩
theorem ev_ne (ha : EvD K ta σ H d) (hb : EvD K tb σ H e) (hd : SeqAt.shaped d = true) (he : SeqAt.shaped e = true) : EvV (tOp (rNeD K) ta tb) σ H (.bl (!PyData.eqv d e)) := fun H1 Q s1 k =>
  ha H1 _ s1 fun v H2 s2 d2 => hb H2 _ (s1.trans s2) fun u H3 s3 d3 => ⟨d, e, dp_same s3 _ _ d2, d3, hd, he, k H3 (s2.trans s3)⟩
theorem ev_eq (ha : EvD K ta σ H d) (hb : EvD K tb σ H e) (hd : SeqAt.shaped d = true) (he : SeqAt.shaped e = true) : EvV (tOp (rEqD K) ta tb) σ H (.bl (PyData.eqv d e)) := fun H1 Q s1 k =>
  ha H1 _ s1 fun v H2 s2 d2 => hb H2 _ (s1.trans s2) fun u H3 s3 d3 => ⟨d, e, dp_same s3 _ _ d2, d3, hd, he, k H3 (s2.trans s3)⟩
theorem ev_all {bs : List Bool} (h : EvD K te σ H (.list (bs.map PyData.bool))) : EvV (tCB (rAll K) (tCons te tNil)) σ H (.bl (bs.all id)) := fun H1 Q s1 k => h H1 _ s1 fun v H2 s2 d2 => by
  cases d2 with
  | lst hs ha =>
    rw [dpa_bools ha] at hs
    exact ⟨_, bs, rfl, hs, k H2 s2⟩
theorem ev_lenT (h : EvD K te σ H (.tuple ds)) : EvV (tCB (rLenK K) (tCons te tNil)) σ H (.int (ds.length : Int)) := fun H1 Q s1 k => h H1 _ s1 fun v H2 s2 d2 => by
  cases d2 with
  | tup hs ha => exact ⟨_, _, rfl, .inr hs, by rw [dpa_len ha]; exact k H2 s2⟩
theorem ev_lenL (h : EvD K te σ H (.list ds)) : EvV (tCB (rLenK K) (tCons te tNil)) σ H (.int (ds.length : Int)) := fun H1 Q s1 k => h H1 _ s1 fun v H2 s2 d2 => by
  cases d2 with
  | lst hs ha => exact ⟨_, _, rfl, .inl hs, by rw [dpa_len ha]; exact k H2 s2⟩
theorem ev_sumT {ns : List Int} (h : EvD K te σ H (.tuple (ns.map PyData.int))) : EvV (tCB (rSumT K) (tCons te tNil)) σ H (.int ns.sum) := fun H1 Q s1 k => h H1 _ s1 fun v H2 s2 d2 => by
  cases d2 with
  | tup hs ha =>
    rw [dpa_ints_eq ha] at hs
    exact ⟨_, ns, rfl, hs, k H2 s2⟩
/-! ### a step of a body -/
theorem ifNo (h : EvB tt σ H false) (k : ∀ H1, Same H H1 → u D σ H1) : tSeq (tIfS tt w tNext) u D σ H := h H _ (Same.refl H) fun H1 s => iteF (k H1 s)
theorem dropD (h : EvD K te σ H d) (k : ∀ H1, Same H H1 → u D σ H1) : tSeq (tDrop te) u D σ H := h H _ (Same.refl H) fun _ H1 s _ => k H1 s
theorem dropV (h : EvV te σ H v) (k : ∀ H1, Same H H1 → u D σ H1) : tSeq (tDrop te) u D σ H := h H _ (Same.refl H) fun H1 s => k H1 s
/-! ### calls -/
theorem evd_call {sp : Sp} (h : EvDs K tas σ H ds) (hsp : ∀ vs H1 (Q : VK), Same H H1 → DpAll K H1 vs ds → (∀ v H2, Same H1 H2 → Dp K H2 v d → Q v H2) → sp vs H1 Q E0) : EvD K (tCall sp [] E0 tas) σ H d := fun H1 Q s1 k => h H1 _ s1 fun vs H2 s2 d2 => by
  show sp (vs ++ []) H2 Q E0
  rw [List.append_nil]
  exact hsp vs H2 Q (s1.trans s2) d2 fun v H3 s3 d3 => k v H3 (s2.trans s3) d3
theorem evv_call {sp : Sp} (h : EvDs K tas σ H ds) (hsp : ∀ vs H1 (Q : VK), Same H H1 → DpAll K H1 vs ds → (∀ H2, Same H1 H2 → Q v H2) → sp vs H1 Q E0) : EvV (tCall sp [] E0 tas) σ H v := fun H1 Q s1 k => h H1 _ s1 fun vs H2 s2 d2 => by
  show sp (vs ++ []) H2 Q E0
  rw [List.append_nil]
  exact hsp vs H2 Q (s1.trans s2) d2 fun H3 s3 => k H3 (s2.trans s3)
theorem evo_call {sp : Sp} (h : EvDs K tas σ H ds) (hsp : ∀ vs H1 (Q : VK), Same H H1 → DpAll K H1 vs ds → (∀ p us H2, H1 p = none → Same H1 H2 → H2 p = some (.lst us) → DpAll K H2 us es → Q (.ref p) H2) → sp vs H1 Q E0) : EvO K (tCall sp [] E0 tas) σ H es := fun H1 Q s1 k => h H1 _ s1 fun vs H2 s2 d2 => by
  show sp (vs ++ []) H2 Q E0
  rw [List.append_nil]
  exact hsp vs H2 Q (s1.trans s2) d2 fun p us H3 n3 s3 e3 d3 => k p us H3 (s2.free n3) (s2.trans s3) e3 d3
/-! ### a comprehension over a tuple, over a range -/
theorem evo_lcT {j : Nat} {w : PyData} (keep : PyData → Bool) (g : PyData → PyData) (hs : EvD K te σ H (.tuple ds)) (hz : ds.length ≤ 100000)
    (ht : ∀ x d H1 (R : Bool → Hp → Prop), d ∈ ds → Same H H1 → Dp K H1 x d → (∀ H2, Same H1 H2 → R (keep d) H2) → tt ((wipe σ [j]).set j (some x)) H1 R)
    (he : ∀ x d H1 D (R : VK), d ∈ ds → keep d = true → Same H H1 → Dp K (erase D H1) x d → (∃ acc, H1 D = some (.lst acc)) → Same H (erase D H1) → (∀ y H2, Same H1 H2 → Dp K (erase D H2) y (g d) → R y H2) → tb ((wipe σ [j]).set j (some x)) H1 R) :
    EvO K (tLc (iTup K te) (gName j) tt tb [j]) σ H ((ds.filter keep).map g) := fun H1 Q s1 k => by
  show te σ H1 fun x H1 => tLc (iTup K (tC x)) (gName j) tt tb [j] σ H1 Q
  refine hs H1 _ s1 fun v H2 s2 d2 => ?_
  cases d2 with
  | tup hq d2 =>
  rename_i p vs
  have hl := dpa_len d2
  refine lc_dpT (fun n => keep (ds.getD n w)) (fun n => g (ds.getD n w)) (fun R h => h) hq (by omega) (fun n x H3 R e3 s3 k3 => ?_) (fun n x H3 D R e3 kp hD hacc s3 k3 => ?_) (fun D acc H3 hD s3 e3 d3 => ?_)
  · obtain ⟨d, ed, hx⟩ := dpa_get2 d2 e3
    rw [getD_of ed] at k3
    exact ht x d H3 R (List.mem_of_getElem? ed) ((s1.trans s2).trans s3) (dp_same s3 _ _ hx) k3
  · obtain ⟨d, ed, hx⟩ := dpa_get2 d2 e3
    rw [getD_of ed] at k3 kp
    exact he x d H3 D R (List.mem_of_getElem? ed) kp ((s1.trans s2).trans s3) (dp_same (same_erase s3 hD) _ _ hx) hacc ((s1.trans s2).trans (same_erase s3 hD)) k3
  · refine k D acc H3 (s2.free hD) (s2.trans s3) e3 ?_
    have e0 : (List.range ds.length).map (fun n => ds.getD n w) = ds := by
      have := range_get ds (fun d => d) w
      rw [List.map_id'] at this
      exact this
    have ez : ((List.range vs.length).filter fun n => keep (ds.getD n w)).map (fun n => g (ds.getD n w)) = (ds.filter keep).map g := by
      rw [hl]
      calc ((List.range ds.length).filter fun n => keep (ds.getD n w)).map (fun n => g (ds.getD n w))
          = (((List.range ds.length).filter (keep ∘ fun n => ds.getD n w)).map (fun n => ds.getD n w)).map g := by rw [List.map_map]; rfl
        _ = (((List.range ds.length).map (fun n => ds.getD n w)).filter keep).map g := by rw [List.filter_map]
        _ = (ds.filter keep).map g := by rw [e0]
    rw [ez] at d3
    exact d3
theorem evo_lcR {j m : Nat} (keep : Nat → Bool) (g : Nat → PyData) (hs : EvV te σ H (.int (m : Int))) (hz : m ≤ 100000)
    (ht : ∀ n H1 (R : Bool → Hp → Prop), n < m → Same H H1 → (∀ H2, Same H1 H2 → R (keep n) H2) → tt ((wipe σ [j]).set j (some (.int (n : Int)))) H1 R)
    (he : ∀ n H1 D (R : VK), n < m → keep n = true → Same H H1 → (∃ acc, H1 D = some (.lst acc)) → Same H (erase D H1) → (∀ y H2, Same H1 H2 → Dp K (erase D H2) y (g n) → R y H2) → tb ((wipe σ [j]).set j (some (.int (n : Int)))) H1 R) :
    EvO K (tLc (iRng1 (tCons te tNil)) (gName j) tt tb [j]) σ H (((List.range m).filter keep).map g) := fun H1 Q s1 k => by
  show te σ H1 fun x H1 => tLc (iRng1 (tCons (tC x) tNil)) (gName j) tt tb [j] σ H1 Q
  refine hs H1 _ s1 fun H2 s2 => ?_
  refine lc_dpR (K := K) (m := m) keep g (fun R h => h) hz (fun n H3 R e3 s3 k3 => ht n H3 R e3 ((s1.trans s2).trans s3) k3) (fun n H3 D R e3 kp hD hacc s3 k3 => he n H3 D R e3 kp ((s1.trans s2).trans s3) hacc ((s1.trans s2).trans (same_erase s3 hD)) k3) (fun D acc H3 hD s3 e3 d3 => ?_)
  exact k D acc H3 (s2.free hD) (s2.trans s3) e3 d3
end
/-! ### data that == may be asked of -/
def ShN (n : Nat) (d : PyData) : Prop := d.canLay0 = true ∧ d.depth ≤ n
theorem ShN.ok {n : Nat} {d : PyData} (h : ShN n d) (hn : n ≤ 64) : SeqAt.shaped d = true := by
  show (d.canLay0 && decide (d.depth ≤ 64)) = true
  rw [h.1, decide_eq_true (Nat.le_trans h.2 hn)]
  rfl
theorem sh_int {n : Nat} (i : Int) : ShN n (.int i) := ⟨by simp only [PyData.canLay0], by simp only [PyData.depth]; exact Nat.zero_le n⟩
theorem sh_bool {n : Nat} (b : Bool) : ShN n (.bool b) := ⟨by simp only [PyData.canLay0], by simp only [PyData.depth]; exact Nat.zero_le n⟩
theorem sh_none {n : Nat} : ShN n .none := ⟨by simp only [PyData.canLay0], by simp only [PyData.depth]; exact Nat.zero_le n⟩
theorem sh_all {n : Nat} : ∀ {ds : List PyData}, (∀ d ∈ ds, ShN n d) → PyData.canLayAll0 ds = true ∧ PyData.depthAll ds ≤ n
  | [], _ => ⟨by simp only [PyData.canLayAll0], by simp only [PyData.depthAll]; exact Nat.zero_le n⟩
  | d :: ds, h => by
    have h1 := h d List.mem_cons_self
    have h2 := sh_all fun e he => h e (List.mem_cons_of_mem _ he)
    refine ⟨?_, ?_⟩
    · simp only [PyData.canLayAll0, h1.1, h2.1, Bool.and_self]
    · simp only [PyData.depthAll]
      exact Nat.max_le.mpr ⟨h1.2, h2.2⟩
theorem sh_tup {n : Nat} {ds : List PyData} (h : ∀ d ∈ ds, ShN n d) : ShN (n + 1) (.tuple ds) := by
  have h2 := sh_all h
  exact ⟨by simp only [PyData.canLay0, h2.1], by simp only [PyData.depth]; exact Nat.succ_le_succ h2.2⟩
theorem sh_lst {n : Nat} {ds : List PyData} (h : ∀ d ∈ ds, ShN n d) : ShN (n + 1) (.list ds) := by
  have h2 := sh_all h
  exact ⟨by simp only [PyData.canLay0, h2.1], by simp only [PyData.depth]; exact Nat.succ_le_succ h2.2⟩
theorem sh_ints {n : Nat} {ns : List Int} : ∀ d ∈ ns.map PyData.int, ShN n d := fun d hd => by
  obtain ⟨i, _, rfl⟩ := List.mem_map.mp hd
  exact sh_int i
theorem sh_plan {cs : List Int} {g : Int} : ShN 2 (planD cs g) := sh_tup fun d hd => by
  simp only [List.mem_cons, List.not_mem_nil, or_false] at hd
  rcases hd with rfl | rfl
  · exact sh_tup sh_ints
  · exact sh_int g
theorem eqv_self {n : Nat} {d : PyData} (h : ShN n d) : PyData.eqv d d = true := SeqAt.eqv_refl d h.1
/-! ### a def that may raise, called where it does not -/
theorem passN {X : Cx} : Passes (L2N.CX X.prog X.w) X E0 := fun _ _ _ _ _ _ _ h => by
  obtain ⟨_, _, _, _, _, _, _, _, _, _, _, _, z⟩ := h
  exact z.elim
section
variable {X : Cx} {k : Nat} {x : Str} {ps : List Str} {sp : Sp} {e : Expr} {es : List Expr} {t : TA} {p pos : Pos}
theorem pe_fN (C : Cal X.prog X.w X.K X.mg X.base (L2N.CX X.prog X.w) k x ps sp) (hr : Room k X.A) (ha : PA X (e :: es) t) (hg : Gl X x := by rfl) (hdb : (x == ("__debug__" : Str)) = false := by decide)
    (he : starEach (e :: es) X.env = (false, eval e X.env) :: starEach es X.env := by rfl) (hpl : (backTo pos (starEach es X.env)).any (·.1) = false := by rfl) :
    PE X (.Call (.Name x p) (e :: es) [] pos) (tCall sp [] E0 t) := by
  obtain ⟨f, fd, F, hm, hk, hb⟩ := C.ex
  exact pe_call F hr hg hm hk hb .nil passN ha hdb he hpl
end
section
variable {K : PySem.W.Frag} {tas : TA} {σ : L2.St} {H : Hp} {d : PyData} {ds : List PyData}
theorem evd_X {n : Nat} {f : List PyData → Except Err PyData} (h : EvDs K tas σ H ds) (hl : ds.length = n) (hf : f ds = .ok d) : EvD K (tCall (PSpX K n f) [] E0 tas) σ H d :=
  evd_call h fun vs H1 Q s1 d1 k => ⟨ds, d1, hl, fun r hr v H2 s2 d2 => k v H2 s2 (by rw [hf] at hr; cases hr; exact d2), fun e he => by rw [hf] at he; cases he⟩
end
/-! ### more of expressions -/
def isNone : PyData → Bool
  | .none => true
  | _ => false
section
variable {K : PySem.W.Frag} {te ta tb : TE} {tt : TT} {tas tr : TA} {σ : L2.St} {H H' : Hp} {d e : PyData} {ds es : List PyData} {v x y : V} {i j : Nat} {u w tw : TS} {D : Ends} {n : Int} {cs : List Int}
theorem dp_isNone (h : Dp K H v d) : decide (v = .non) = isNone d := by
  cases h with
  | non => rfl
  | _ => exact decide_eq_false fun z => nomatch z
theorem ev_isN (h : EvD K te σ H d) : EvV (tOp (fun x y H Q => y = V.non ∧ Q (V.bl (decide (x = V.non))) H) te (tC .non)) σ H (.bl (isNone d)) := fun H1 Q s1 k => h H1 _ s1 fun v H2 s2 d2 => ⟨rfl, by rw [dp_isNone d2]; exact k H2 s2⟩
theorem ev_notN (h : EvD K te σ H d) : EvV (tOp (fun x y H Q => y = V.non ∧ Q (V.bl (!decide (x = V.non))) H) te (tC .non)) σ H (.bl (!isNone d)) := fun H1 Q s1 k => h H1 _ s1 fun v H2 s2 d2 => ⟨rfl, by rw [dp_isNone d2]; exact k H2 s2⟩
theorem evo_takeL (h : EvD K te σ H (.list ds)) (hn : EvV ta σ H (.int n)) (h0 : 0 ≤ n) (h1 : n ≤ ds.length) : EvO K (tSl (rSlL K) te tNoPart (tPart ta)) σ H (ds.take n.toNat) := fun H1 Q s1 k =>
  h H1 _ s1 fun v H2 s2 d2 => hn H2 _ (s1.trans s2) fun H3 s3 => ⟨n, rfl, by
    cases d2 with
    | lst hs ha => exact ⟨_, _, rfl, s3.seq hs, fun p np => k p _ _ ((s2.trans s3).free np) ((s2.trans s3).trans (same_upd np)) upd_same (by
        rw [cut_take h0 (by rw [dpa_len ha]; exact h1)]
        exact dpa_take (dpa_same (s3.trans (same_upd np)) _ _ ha))⟩⟩
theorem evo_dropL (h : EvD K te σ H (.list ds)) (hn : EvV ta σ H (.int n)) (h0 : 0 ≤ n) (h1 : n ≤ ds.length) : EvO K (tSl (rSlL K) te (tPart ta) tNoPart) σ H (ds.drop n.toNat) := fun H1 Q s1 k =>
  h H1 _ s1 fun v H2 s2 d2 => hn H2 _ (s1.trans s2) fun H3 s3 => ⟨n, rfl, by
    cases d2 with
    | lst hs ha => exact ⟨_, _, rfl, s3.seq hs, fun p np => k p _ _ ((s2.trans s3).free np) ((s2.trans s3).trans (same_upd np)) upd_same (by
        rw [cut_drop h0 (by rw [dpa_len ha]; exact h1)]
        exact dpa_drop (dpa_same (s3.trans (same_upd np)) _ _ ha))⟩⟩
theorem evo_rep (h : EvK K ta σ H ds) (hn : EvV tb σ H (.int n)) (h0 : -1000000 ≤ n) (h1 : n ≤ 100000) (hl : ds.length * n.toNat ≤ 100000) : EvO K (tOp rRep ta tb) σ H (List.replicate n.toNat ds).flatten := fun H1 Q s1 k =>
  h H1 _ s1 fun p vs H2 s2 e2 d2 => hn H2 _ (s1.trans s2) fun H3 s3 => ⟨p, n, vs, rfl, rfl, s3 _ _ e2, by omega, by omega, by rw [dpa_len d2]; exact Nat.le_trans hl (by decide), fun l nl =>
    k l _ _ ((s2.trans s3).free nl) ((s2.trans s3).trans (same_upd nl)) upd_same (dpa_rep (dpa_same (s3.trans (same_upd nl)) _ _ d2) _)⟩
theorem evd_takeI (h : EvD K te σ H (.tuple (cs.map PyData.int))) (hn : EvV ta σ H (.int n)) (h0 : 0 ≤ n) (h1 : n ≤ cs.length) : EvD K (tSl (rSlA K) te tNoPart (tPart ta)) σ H (.tuple ((cs.take n.toNat).map PyData.int)) := by
  rw [List.map_take]
  exact evd_take h hn h0 (by rw [List.length_map]; exact h1)
theorem EvD.is (h : EvD K te σ H d) (q : d = e) : EvD K te σ H e := q ▸ h
theorem EvO.is (h : EvO K te σ H ds) (q : ds = es) : EvO K te σ H es := q ▸ h
/-- a for over a list that stays -/
theorem forL {a : Addr} {xs : List V} (he : EvV te σ H (.ref a)) (hx : SqL K H a xs) (Pv : Nat → L2.St → Hp → Prop) (h0 : ∀ H1, Same H H1 → Pv 0 σ H1) (hl : ∀ i σ' H', Pv i σ' H' → SqL K H' a xs)
    (hs : ∀ i x σ' H', xs[i]? = some x → Pv i σ' H' → tw { nx := Pv (i + 1), rt := D.rt, bk := u D, ct := Pv (i + 1) } (σ'.set j (some x)) H') (hd : ∀ σ' H', Pv xs.length σ' H' → u D σ' H') : tSeq (tFor (iList K te) (gName j) tw) u D σ H :=
  he H _ (Same.refl H) fun H1 s1 => ⟨a, rfl, ⟨xs, s1.seq hx⟩, for_list (K := K) (a := a) (xs := xs) (D := { D with nx := u D }) Pv (h0 H1 s1) (fun i σ' H' _ p => hl i σ' H' p) (fun i x σ' H' e p => hs i x σ' H' e p) hd⟩
theorem asgLast (h : EvV te σ H v) (k : ∀ H1, Same H H1 → D.nx (σ.set i (some v)) H1) : tAsg te (gName i) D σ H := h H _ (Same.refl H) fun H1 s => k H1 s
theorem asgLastD (h : EvD K te σ H d) (k : ∀ v H1, Same H H1 → Dp K H1 v d → D.nx (σ.set i (some v)) H1) : tAsg te (gName i) D σ H := h H _ (Same.refl H) fun v H1 s d => k v H1 s d
end
/-! ### the plan behind some signs -/
def after (cs : List Int) (g : Int) (ss : List Int) : List Int := ss.foldl (fun c s => grown c g s) cs
theorem after_snoc (cs : List Int) (g : Int) (ss : List Int) (s : Int) : after cs g (ss ++ [s]) = grown (after cs g ss) g s := by
  unfold after
  rw [List.foldl_append]
  rfl
theorem after_ok {cs : List Int} {g : Int} (p : Plan cs g) : ∀ {ss : List Int}, (∀ s ∈ ss, 0 ≤ s ∧ s < cs.length) → Plan (after cs g ss) g ∧ (after cs g ss).length = cs.length := by
  intro ss
  induction ss generalizing cs with
  | nil => exact fun _ => ⟨p, rfl⟩
  | cons s r ih =>
    intro h
    have h1 := h s List.mem_cons_self
    have h2 := ih (p.grown h1.1 h1.2) fun t ht => by
      rw [grown_len]
      exact h t (List.mem_cons_of_mem _ ht)
    exact ⟨h2.1, h2.2.trans (grown_len ..)⟩
theorem take_snoc {α : Type} {l : List α} {i : Nat} {x : α} (h : l[i]? = some x) : l.take (i + 1) = l.take i ++ [x] := by
  rw [List.take_add_one, h]
  rfl
end Pl

namespace Pl
open PySem PySem.Spec PyProof.Rows L2
/-! ### stretches -/
structure S3 where
  l : Int
  w : Int
  t : Int
def S3.d (s : S3) : PyData := .tuple [.int s.l, .int s.w, .int s.t]
def S3.by (s : S3) (b c q : Int) : S3 := ⟨s.l * q + s.w * b, s.w * c, s.t * q⟩
def whole3 : S3 := ⟨0, 1, 1⟩
/-- a stretch, all of it below 2 ^ n -/
structure S3.Ok (s : S3) (n : Nat) : Prop where
  l0 : 0 ≤ s.l
  w1 : 1 ≤ s.w
  lw : s.l + s.w ≤ s.t
  tn : s.t < 2 ^ n
theorem whole_ok : whole3.Ok 1 := ⟨by decide, by decide, by decide, by decide⟩
theorem pow_nat (n : Nat) : ((2 ^ n : Nat) : Int) = 2 ^ n := by
  rw [Int.natCast_pow]
  rfl
theorem abs_lt {i : Int} {n : Nat} (h0 : 0 ≤ i) (h : i < 2 ^ n) : i.natAbs < 2 ^ n := by
  have e := pow_nat n
  omega
theorem S3.Ok.t1 {s : S3} {n : Nat} (h : s.Ok n) : 1 ≤ s.t := by
  have := h.l0; have := h.w1; have := h.lw
  omega
theorem S3.Ok.labs {s : S3} {n : Nat} (h : s.Ok n) : s.l.natAbs < 2 ^ n := abs_lt h.l0 (by have := h.w1; have := h.lw; have := h.tn; omega)
theorem S3.Ok.wabs {s : S3} {n : Nat} (h : s.Ok n) : s.w.natAbs < 2 ^ n := abs_lt (by have := h.w1; omega) (by have := h.l0; have := h.lw; have := h.tn; omega)
theorem S3.Ok.tabs {s : S3} {n : Nat} (h : s.Ok n) : s.t.natAbs < 2 ^ n := abs_lt (by have := h.t1; omega) h.tn
theorem S3.Ok.lwabs {s : S3} {n : Nat} (h : s.Ok n) : (s.l + s.w).natAbs < 2 ^ n := abs_lt (by have := h.l0; have := h.w1; omega) (by have := h.lw; have := h.tn; omega)
theorem pow_mono {m n : Nat} (h : m ≤ n) : (2 : Int) ^ m ≤ 2 ^ n := by
  rw [← pow_nat, ← pow_nat]
  exact Int.ofNat_le.mpr (Nat.pow_le_pow_right (by decide) h)
theorem S3.Ok.mono {s : S3} {m n : Nat} (h : s.Ok m) (hn : m ≤ n) : s.Ok n := ⟨h.l0, h.w1, h.lw, Int.lt_of_lt_of_le h.tn (pow_mono hn)⟩
/-- what a share is: below, count, total -/
structure Share (b c q : Int) : Prop where
  b0 : 0 ≤ b
  c1 : 1 ≤ c
  bc : b + c ≤ q
  q8 : q ≤ 8000000
theorem S3.Ok.by_ok {s : S3} {n : Nat} {b c q : Int} (h : s.Ok n) (hs : Share b c q) : (s.by b c q).Ok (n + 23) := by
  have l0 := h.l0; have w1 := h.w1; have lw := h.lw; have tn := h.tn; have t1 := h.t1
  have b0 := hs.b0; have c1 := hs.c1; have bc := hs.bc; have q8 := hs.q8
  have m1 : 0 ≤ s.l * q := Int.mul_nonneg l0 (by omega)
  have m2 : 0 ≤ s.w * b := Int.mul_nonneg (by omega) b0
  have m3 : s.w * 1 ≤ s.w * c := Int.mul_le_mul_of_nonneg_left c1 (by omega)
  have m4 : s.w * (b + c) ≤ s.w * q := Int.mul_le_mul_of_nonneg_left bc (by omega)
  have m5 : (s.l + s.w) * q ≤ s.t * q := Int.mul_le_mul_of_nonneg_right lw (by omega)
  have m6 : s.t * q ≤ s.t * 8000000 := Int.mul_le_mul_of_nonneg_left q8 (by omega)
  rw [Int.mul_add] at m4
  rw [Int.add_mul] at m5
  have e : (2 : Int) ^ (n + 23) = 2 ^ n * 8388608 := by rw [Int.pow_add]; rfl
  refine ⟨?_, ?_, ?_, ?_⟩
  · show 0 ≤ s.l * q + s.w * b
    omega
  · show 1 ≤ s.w * c
    omega
  · show s.l * q + s.w * b + s.w * c ≤ s.t * q
    omega
  · show s.t * q < 2 ^ (n + 23)
    rw [e]
    omega
/-! ### sums of counts -/
theorem sum_nonneg : ∀ {l : List Int}, (∀ c ∈ l, 0 ≤ c) → 0 ≤ l.sum
  | [], _ => Int.le_refl 0
  | c :: r, h => by
    rw [List.sum_cons]
    have := h c List.mem_cons_self
    have := sum_nonneg fun d hd => h d (List.mem_cons_of_mem _ hd)
    omega
theorem sum_le : ∀ {l : List Int} {m : Int}, (∀ c ∈ l, c ≤ m) → l.sum ≤ l.length * m
  | [], m, _ => by simp
  | c :: r, m, h => by
    rw [List.sum_cons, List.length_cons]
    have h1 := h c List.mem_cons_self
    have h2 := sum_le fun d hd => h d (List.mem_cons_of_mem _ hd)
    have e : ((r.length + 1 : Nat) : Int) * m = r.length * m + m := by rw [Int.natCast_add, Int.add_mul]; simp
    omega
theorem sum_split {l : List Int} {i : Nat} (h : i < l.length) : l.sum = (l.take i).sum + l.getD i 0 + (l.drop (i + 1)).sum := by
  have e : l = l.take i ++ l.getD i 0 :: l.drop (i + 1) := by
    rw [List.getD_eq_getElem?_getD, List.getElem?_eq_getElem h]
    simp
  conv => lhs; rw [e]
  rw [List.sum_append, List.sum_cons]
  omega
theorem plan_share {cs : List Int} {g s : Int} (p : Plan cs g) (h0 : 0 ≤ s) (h1 : s < cs.length) : Share (belowOf cs s) (nth cs s) cs.sum := by
  have hi : s.toNat < cs.length := by omega
  have e := sum_split hi
  have n1 := p.nth h0 h1
  have a1 : 0 ≤ (cs.take s.toNat).sum := sum_nonneg fun c hc => by have := p.pos c (List.mem_of_mem_take hc); omega
  have a2 : 0 ≤ (cs.drop (s.toNat + 1)).sum := sum_nonneg fun c hc => by have := p.pos c (List.mem_of_mem_drop hc); omega
  have a3 := sum_le (l := cs) (m := 1000000) fun c hc => (p.pos c hc).2
  have e8 := p.eight
  refine ⟨a1, n1.1, ?_, ?_⟩
  · show (cs.take s.toNat).sum + cs.getD s.toNat 0 ≤ cs.sum
    omega
  · have : (cs.length : Int) * 1000000 ≤ 8 * 1000000 := Int.mul_le_mul_of_nonneg_right (by omega) (by omega)
    omega
/-! ### the stretch of a text -/
def strOf (s : S3) (cs : List Int) (g : Int) : List Int → S3
  | [] => s
  | x :: r => strOf (s.by (belowOf cs x) (nth cs x) cs.sum) (grown cs g x) g r
theorem strOf_snoc (g x : Int) : ∀ (ss : List Int) (s : S3) (cs : List Int), strOf s cs g (ss ++ [x]) = (strOf s cs g ss).by (belowOf (after cs g ss) x) (nth (after cs g ss) x) (after cs g ss).sum
  | [], s, cs => rfl
  | y :: r, s, cs => strOf_snoc g x r _ _
theorem strOf_ok {g : Int} : ∀ {ss : List Int} {s : S3} {cs : List Int} {n : Nat}, Plan cs g → s.Ok n → (∀ x ∈ ss, 0 ≤ x ∧ x < cs.length) → (strOf s cs g ss).Ok (n + 23 * ss.length)
  | [], s, cs, n, _, h, _ => h
  | x :: r, s, cs, n, p, h, hx => by
    have h1 := hx x List.mem_cons_self
    have h2 := strOf_ok (p.grown h1.1 h1.2) (h.by_ok (plan_share p h1.1 h1.2)) fun y hy => by
      rw [grown_len]
      exact hx y (List.mem_cons_of_mem _ hy)
    refine h2.mono ?_
    rw [List.length_cons]
    omega
def textS (cs : List Int) (g : Int) (ss : List Int) : S3 := strOf whole3 cs g ss
theorem textS_ok {cs : List Int} {g : Int} {ss : List Int} (p : Plan cs g) (h : Text cs.length ss) : (textS cs g ss).Ok 1400 :=
  (strOf_ok p whole_ok fun x hx => by have := h.2 x hx; omega).mono (by have := h.1; omega)
/-! ### the stretch of figures -/
def numOf (fs : List Int) : Int := fs.foldl (fun n f => 2 * n + f) 0
def figS (fs : List Int) : S3 := ⟨numOf fs, 1, 2 ^ fs.length⟩
def Bits (fs : List Int) : Prop := ∀ f ∈ fs, 0 ≤ f ∧ f ≤ 1
theorem numOf_snoc (fs : List Int) (f : Int) : numOf (fs ++ [f]) = 2 * numOf fs + f := by
  unfold numOf
  rw [List.foldl_append]
  rfl
theorem foldl_snoc_ind {P : List Int → Prop} (h0 : P []) (h1 : ∀ l x, P l → P (l ++ [x])) (l : List Int) : P l := by
  rw [← List.reverse_reverse l]
  induction l.reverse with
  | nil => exact h0
  | cons x r ih =>
    rw [List.reverse_cons]
    exact h1 _ _ ih
theorem numOf_ok (fs : List Int) : Bits fs → 0 ≤ numOf fs ∧ numOf fs < 2 ^ fs.length := by
  refine foldl_snoc_ind (P := fun fs => Bits fs → 0 ≤ numOf fs ∧ numOf fs < 2 ^ fs.length) (fun _ => by decide) (fun l x ih h => ?_) fs
  have h1 := ih fun f hf => h f (List.mem_append_left _ hf)
  have h2 := h x (by simp)
  rw [numOf_snoc, List.length_append, List.length_singleton, Int.pow_succ]
  omega
theorem figS_ok {fs : List Int} (h : Bits fs) : (figS fs).Ok (fs.length + 1) := by
  have h1 := numOf_ok fs h
  refine ⟨h1.1, Int.le_refl 1, ?_, ?_⟩
  · show numOf fs + 1 ≤ 2 ^ fs.length
    omega
  · show (2 : Int) ^ fs.length < 2 ^ (fs.length + 1)
    rw [Int.pow_succ]
    have : (0 : Int) < 2 ^ fs.length := Int.pow_pos (by decide)
    omega
/-! ### within -/
def withinB (a b : S3) : Bool := !decide (a.l * b.t < b.l * a.t) && decide ((a.l + a.w) * b.t ≤ (b.l + b.w) * a.t)
theorem S3.at {K : PySem.W.Frag} {H : Hp} {v : V} {s : S3} (h : Dp K H v s.d) : ∃ a, v = .ref a ∧ SqT K H a [.int s.l, .int s.w, .int s.t] := by
  cases h with
  | tup hs ha =>
    cases ha with
    | cons h1 h2 => cases h2 with
      | cons h2 h3 => cases h3 with
        | cons h3 h4 =>
          cases h4
          cases dp_int h1
          cases dp_int h2
          cases dp_int h3
          exact ⟨_, rfl, hs⟩
theorem s3_sh {n : Nat} (s : S3) : ShN (n + 1) s.d := sh_tup fun d hd => by
  simp only [List.mem_cons, List.not_mem_nil, or_false] at hd
  rcases hd with rfl | rfl | rfl <;> exact sh_int _
/-! ### a tuple taken apart -/
section
variable {K : PySem.W.Frag} {te : TE} {σ : L2.St} {H : Hp} {u : TS} {D : Ends} {i j k : Nat} {d1 d2 d3 : PyData}
theorem unp2 (h : EvD K te σ H (.tuple [d1, d2])) (q : ∀ v1 v2 H1, Same H H1 → Dp K H1 v1 d1 → Dp K H1 v2 d2 → u D ((σ.set i (some v1)).set j (some v2)) H1) : tSeq (tAsg te (gTup K 2 (gCons (gName i) (gCons (gName j) gNil)))) u D σ H :=
  h H _ (Same.refl H) fun v H1 s1 dv => by
    cases dv with
    | tup hs ha => cases ha with
      | cons a1 a2 => cases a2 with
        | cons a2 a3 =>
          cases a3
          exact ⟨_, _, rfl, hs, rfl, _, _, rfl, _, _, rfl, rfl, q _ _ H1 s1 a1 a2⟩
theorem unp3 (h : EvD K te σ H (.tuple [d1, d2, d3])) (q : ∀ v1 v2 v3 H1, Same H H1 → Dp K H1 v1 d1 → Dp K H1 v2 d2 → Dp K H1 v3 d3 → u D (((σ.set i (some v1)).set j (some v2)).set k (some v3)) H1) : tSeq (tAsg te (gTup K 3 (gCons (gName i) (gCons (gName j) (gCons (gName k) gNil))))) u D σ H :=
  h H _ (Same.refl H) fun v H1 s1 dv => by
    cases dv with
    | tup hs ha => cases ha with
      | cons a1 a2 => cases a2 with
        | cons a2 a3 => cases a3 with
          | cons a3 a4 =>
            cases a4
            exact ⟨_, _, rfl, hs, rfl, _, _, rfl, _, _, rfl, _, _, rfl, rfl, q _ _ _ H1 s1 a1 a2 a3⟩
theorem unpS {s : S3} (h : EvD K te σ H s.d) (q : ∀ H1, Same H H1 → u D (((σ.set i (some (.int s.l))).set j (some (.int s.w))).set k (some (.int s.t))) H1) : tSeq (tAsg te (gTup K 3 (gCons (gName i) (gCons (gName j) (gCons (gName k) gNil))))) u D σ H :=
  unp3 h fun v1 v2 v3 H1 s1 a1 a2 a3 => by
    rw [dp_int a1, dp_int a2, dp_int a3]
    exact q H1 s1
end
section
variable {K : PySem.W.Frag} {tas : TA} {te : TE} {σ : L2.St} {H : Hp} {d x : PyData} {ds : List PyData} {u : TS} {D : Ends}
theorem evd_XS {n : Nat} {f : List PyData → Except Err PyData} {E : L2.St → XK} (h : EvDs K tas σ H ds) (hl : ds.length = n) (hf : f ds = .ok d) : EvD K (tCallS (PSpX K n f) E tas) σ H d := fun H1 Q s1 k => h H1 _ s1 fun vs H2 s2 d2 =>
  ⟨ds, d2, hl, fun r hr v H3 s3 d3 => k v H3 (s2.trans s3) (by rw [hf] at hr; cases hr; exact d3), fun e he => by rw [hf] at he; cases he⟩
/-- a call that may raise, as a statement: both ways -/
theorem dropX {n : Nat} {f : List PyData → Except Err PyData} {E : L2.St → XK} (h : EvDs K tas σ H ds) (hl : ds.length = n) (hok : ∀ r H1, f ds = .ok r → Same H H1 → u D σ H1) (her : ∀ e H1, f ds = .error e → Same H H1 → E σ (.ref (errC K e)) none H1) : tSeq (tDrop (tCallS (PSpX K n f) E tas)) u D σ H :=
  h H _ (Same.refl H) fun vs H2 s2 d2 => ⟨ds, d2, hl, fun r hr v H3 s3 d3 => hok r H3 hr (s2.trans s3), fun e he H3 s3 => her e H3 he (s2.trans s3)⟩
end
theorem data_nth {cs : List Int} {s : Int} (h0 : 0 ≤ s) (h1 : s < cs.length) : (cs.map PyData.int)[s.toNat]? = some (.int (nth cs s)) := by
  have hi : s.toNat < cs.length := by omega
  unfold nth
  rw [List.getElem?_map, List.getElem?_eq_getElem hi, List.getD_eq_getElem?_getD, List.getElem?_eq_getElem hi]
  rfl
theorem exv_ints {K : PySem.W.Frag} {D : Addr} {te : TE} {σ : L2.St} {H : Hp} {ns : List Int} (hD : ∃ acc, H D = some (.lst acc)) (h : EvO K te σ H (ns.map PyData.int)) : EvX K D te σ H (.list (ns.map PyData.int)) := fun H1 Q s1 k => h H1 Q s1 fun p vs H2 n2 s2 e2 d2 => by
  obtain ⟨acc, e⟩ := hD
  have hp : p ≠ D := fun z => by
    rw [z, s1 _ _ e] at n2
    cases n2
  rw [dpa_ints_eq d2] at e2
  exact k _ H2 s2 (.lst (.inl (.inl (by rw [erase_at hp]; exact e2))) (dpa_ints ns))
/-- figures that the laws draw -/
def rowSize (c : Int) : Int := if c / 31 % 16 = 1 then c / 496 % 301 else c % 31
def rowOf (c m : Int) : List Int := (List.range (rowSize c).toNat).map fun (k : Nat) => mixed m (k : Int) / 7 % 2
theorem rowSize_ok (c : Int) : 0 ≤ rowSize c ∧ rowSize c ≤ 300 := by
  unfold rowSize
  split <;> omega
theorem rowOf_bits (c m : Int) : Bits (rowOf c m) := fun f hf => by
  obtain ⟨k, _, rfl⟩ := List.mem_map.mp hf
  omega
theorem rowOf_len (c m : Int) : (rowOf c m).length ≤ 300 := by
  unfold rowOf
  rw [List.length_map, List.length_range]
  have := rowSize_ok c
  omega
theorem numOf_zeros (l : List Int) : ∀ n : Nat, numOf (l ++ List.replicate n 0) = numOf l * 2 ^ n
  | 0 => by simp
  | n + 1 => by
    rw [List.replicate_succ', ← List.append_assoc, numOf_snoc, numOf_zeros l n, Int.pow_succ, Int.add_zero, Int.mul_comm 2, Int.mul_assoc]
theorem wholeData : whole3.d = .tuple [.int 0, .int 1, .int 1] := rfl
theorem isStr (s : S3) : isD s.d "tuple" = true := by
  show ((tyName s.d == "tuple") || _) = true
  rw [show (tyName s.d == "tuple") = true from by show (("tuple" : String) == "tuple") = true; decide]
  rfl
theorem cut_if {tt : TT} {a u : TS} {D : Ends} {σ : L2.St} {H : Hp} {b : Bool} (M : L2.St → Hp → Prop) (h : EvB tt σ H b) (hy : b = true → ∀ H1, Same H H1 → a { D with nx := M } σ H1) (hn : b = false → ∀ H1, Same H H1 → M σ H1) (k : ∀ σ' H', M σ' H' → u D σ' H') : Evl.tCut (tIfS tt a tNext) u D σ H :=
  ⟨M, h H _ (Same.refl H) fun H1 s1 => by
    cases b with
    | true => exact iteT (hy rfl H1 s1)
    | false => exact iteF (hn rfl H1 s1), k⟩
theorem ev_eqI {ta tb : TE} {σ : L2.St} {H : Hp} {n m : Int} (ha : EvV ta σ H (.int n)) (hb : EvV tb σ H (.int m)) : EvV (tOp rEq ta tb) σ H (.bl (decide (n = m))) := fun H1 Q s1 k =>
  ha H1 _ s1 fun H2 s2 => hb H2 _ (s1.trans s2) fun H3 s3 => ⟨rfl, by
    have e : decide (V.int n = V.int m) = decide (n = m) := by
      by_cases z : n = m
      · rw [decide_eq_true z, decide_eq_true (congrArg V.int z)]
      · rw [decide_eq_false z, decide_eq_false fun q => z (V.int.inj q)]
    rw [e]
    exact k H3 (s2.trans s3)⟩
theorem ev_neI {ta tb : TE} {σ : L2.St} {H : Hp} {n m : Int} (ha : EvV ta σ H (.int n)) (hb : EvV tb σ H (.int m)) : EvV (tOp rNe ta tb) σ H (.bl (!decide (n = m))) := fun H1 Q s1 k =>
  ha H1 _ s1 fun H2 s2 => hb H2 _ (s1.trans s2) fun H3 s3 => ⟨rfl, by
    have e : decide (V.int n = V.int m) = decide (n = m) := by
      by_cases z : n = m
      · rw [decide_eq_true z, decide_eq_true (congrArg V.int z)]
      · rw [decide_eq_false z, decide_eq_false fun q => z (V.int.inj q)]
    rw [e]
    exact k H3 (s2.trans s3)⟩
/-- what comes back, or the error's word -/
def outOf : Except Err PyData → PyData
  | .ok d => d
  | .error e => .list [.str (wordOf e)]
theorem dpaN1 {K : PySem.W.Frag} {H : Hp} {vs : List V} {d : PyData} (h : DpAll K H vs [d]) : ∃ v, vs = [v] ∧ Dp K H v d := by
  cases h with
  | cons a1 a2 => cases a2; exact ⟨_, rfl, a1⟩
theorem dpaN2 {K : PySem.W.Frag} {H : Hp} {vs : List V} {d e : PyData} (h : DpAll K H vs [d, e]) : ∃ v u, vs = [v, u] ∧ Dp K H v d ∧ Dp K H u e := by
  cases h with
  | cons a1 a2 =>
    obtain ⟨u, rfl, h2⟩ := dpaN1 a2
    exact ⟨_, u, rfl, a1, h2⟩
theorem dpaN3 {K : PySem.W.Frag} {H : Hp} {vs : List V} {d e r : PyData} (h : DpAll K H vs [d, e, r]) : ∃ v u x, vs = [v, u, x] ∧ Dp K H v d ∧ Dp K H u e ∧ Dp K H x r := by
  cases h with
  | cons a1 a2 =>
    obtain ⟨u, x, rfl, h2, h3⟩ := dpaN2 a2
    exact ⟨_, u, x, rfl, a1, h2, h3⟩
theorem wordEq (e : Err) : PyData.eqv (.list [.str (wordOf e)]) (.list [.str (wordOf e)]) = true := eqv_self (n := 1) (sh_lst fun d hd => by
  simp only [List.mem_cons, List.not_mem_nil, or_false] at hd
  subst hd
  exact ⟨by cases e <;> decide +kernel, by simp only [PyData.depth]; exact Nat.zero_le _⟩)
theorem wordSh (e : Err) : SeqAt.shaped (.list [.str (wordOf e)]) = true := by cases e <;> decide +kernel
/-! ### a for over a tuple, a list, as data -/
section
variable {K : PySem.W.Frag} {te ta : TE} {σ : L2.St} {H : Hp} {ds : List PyData} {u tw : TS} {D : Ends} {j : Nat} {n : Int}
theorem forD (he : EvD K te σ H (.tuple ds)) (Pv : Nat → L2.St → Hp → Prop) (h0 : ∀ H1, Same H H1 → Pv 0 σ H1)
    (hs : ∀ i x d σ' H' H1, ds[i]? = some d → Same H H1 → Same H1 H' → Dp K H' x d → Pv i σ' H' → tw { nx := fun σ2 H2 => Same H1 H2 ∧ Pv (i + 1) σ2 H2, rt := D.rt, bk := u D, ct := fun σ2 H2 => Same H1 H2 ∧ Pv (i + 1) σ2 H2 } (σ'.set j (some x)) H')
    (hd : ∀ σ' H', Pv ds.length σ' H' → u D σ' H') : tSeq (tFor (iTup K te) (gName j) tw) u D σ H :=
  he H _ (Same.refl H) fun v H1 s1 dv => by
    cases dv with
    | tup hq ha =>
      refine ⟨_, rfl, ⟨_, hq⟩, for_tup (K := K) (D := { D with nx := u D }) (fun i σ' H' => Same H1 H' ∧ Pv i σ' H') ⟨Same.refl _, h0 H1 s1⟩ (fun i σ' H' _ p => same_t p.1 hq) (fun i x σ' H' e p => ?_) (fun σ' H' p => hd σ' H' (by rw [← dpa_len ha]; exact p.2))⟩
      obtain ⟨d, ed, hx⟩ := dpa_get2 ha e
      exact hs i x d σ' H' H1 ed s1 p.1 (dp_same p.1 _ _ hx) p.2
theorem forDL (he : EvD K te σ H (.list ds)) (Pv : Nat → L2.St → Hp → Prop) (h0 : ∀ H1, Same H H1 → Pv 0 σ H1)
    (hs : ∀ i x d σ' H' H1, ds[i]? = some d → Same H H1 → Same H1 H' → Dp K H' x d → Pv i σ' H' → tw { nx := fun σ2 H2 => Same H1 H2 ∧ Pv (i + 1) σ2 H2, rt := D.rt, bk := u D, ct := fun σ2 H2 => Same H1 H2 ∧ Pv (i + 1) σ2 H2 } (σ'.set j (some x)) H')
    (hd : ∀ σ' H', Pv ds.length σ' H' → u D σ' H') : tSeq (tFor (iList K te) (gName j) tw) u D σ H :=
  he H _ (Same.refl H) fun v H1 s1 dv => by
    cases dv with
    | lst hq ha =>
      refine ⟨_, rfl, ⟨_, hq⟩, for_list (K := K) (D := { D with nx := u D }) (fun i σ' H' => Same H1 H' ∧ Pv i σ' H') ⟨Same.refl _, h0 H1 s1⟩ (fun i σ' H' _ p => p.1.seq hq) (fun i x σ' H' e p => ?_) (fun σ' H' p => hd σ' H' (by rw [← dpa_len ha]; exact p.2))⟩
      obtain ⟨d, ed, hx⟩ := dpa_get2 ha e
      exact hs i x d σ' H' H1 ed s1 p.1 (dp_same p.1 _ _ hx) p.2
/-- the same, the loop the last statement -/
theorem forDL1 (he : EvD K te σ H (.list ds)) (Pv : Nat → L2.St → Hp → Prop) (h0 : ∀ H1, Same H H1 → Pv 0 σ H1)
    (hs : ∀ i x d σ' H' H1, ds[i]? = some d → Same H H1 → Same H1 H' → Dp K H' x d → Pv i σ' H' → tw { nx := fun σ2 H2 => Same H1 H2 ∧ Pv (i + 1) σ2 H2, rt := D.rt, bk := D.nx, ct := fun σ2 H2 => Same H1 H2 ∧ Pv (i + 1) σ2 H2 } (σ'.set j (some x)) H')
    (hd : ∀ σ' H', Pv ds.length σ' H' → D.nx σ' H') : tFor (iList K te) (gName j) tw D σ H :=
  he H _ (Same.refl H) fun v H1 s1 dv => by
    cases dv with
    | lst hq ha =>
      refine ⟨_, rfl, ⟨_, hq⟩, for_list (K := K) (D := D) (fun i σ' H' => Same H1 H' ∧ Pv i σ' H') ⟨Same.refl _, h0 H1 s1⟩ (fun i σ' H' _ p => p.1.seq hq) (fun i x σ' H' e p => ?_) (fun σ' H' p => hd σ' H' (by rw [← dpa_len ha]; exact p.2))⟩
      obtain ⟨d, ed, hx⟩ := dpa_get2 ha e
      exact hs i x d σ' H' H1 ed s1 p.1 (dp_same p.1 _ _ hx) p.2
theorem ifNoLast {tt : TT} {w : TS} (h : EvB tt σ H false) (k : ∀ H1, Same H H1 → D.nx σ H1) : tIfS tt w tNext D σ H := h H _ (Same.refl H) fun H1 s => iteF (k H1 s)
theorem cut_take2 {xs : List V} {s : Int} (h0 : 0 ≤ s) : cutV xs none (some s) = xs.take s.toNat := by
  by_cases h : s ≤ xs.length
  · exact cut_take h0 h
  · unfold cutV
    obtain ⟨n, rfl⟩ := Int.eq_ofNat_of_zero_le h0
    rw [HT.sIx_none, HT.sIx_nat, Int.toNat_natCast, Nat.min_eq_right (by omega), Nat.sub_zero, List.drop_zero, List.take_length, List.take_of_length_le (by omega)]
theorem evo_takeL2 (h : EvD K te σ H (.list ds)) (hn : EvV ta σ H (.int n)) (h0 : 0 ≤ n) : EvO K (tSl (rSlL K) te tNoPart (tPart ta)) σ H (ds.take n.toNat) := fun H1 Q s1 k =>
  h H1 _ s1 fun v H2 s2 d2 => hn H2 _ (s1.trans s2) fun H3 s3 => ⟨n, rfl, by
    cases d2 with
    | lst hs ha => exact ⟨_, _, rfl, s3.seq hs, fun p np => k p _ _ ((s2.trans s3).free np) ((s2.trans s3).trans (same_upd np)) upd_same (by
        rw [cut_take2 h0]
        exact dpa_take (dpa_same (s3.trans (same_upd np)) _ _ ha))⟩⟩
end
theorem Text.take {n : Nat} {ss : List Int} (h : Text n ss) (k : Nat) : Text n (ss.take k) := ⟨by rw [List.length_take]; have := h.1; omega, fun s hs => h.2 s (List.mem_of_mem_take hs)⟩
theorem Bits.take {fs : List Int} (h : Bits fs) (k : Nat) : Bits (fs.take k) := fun f hf => h f (List.mem_of_mem_take hf)
theorem signs_text {c : Int} {n : Nat} {most : Nat} (h : 0 < n) (hm : most ≤ 60) : Text n (signsOf c n most) := ⟨by have := signsOf_len (c := c) (n := n) (most := (most : Int)) (by omega); omega, fun s hs => by have := signsOf_ok (c := c) (n := n) (most := (most : Int)) h s hs; omega⟩
theorem rep_one {α : Type} (n : Nat) (x : α) : (List.replicate n [x]).flatten = List.replicate n x := by
  induction n with
  | zero => rfl
  | succ n ih => rw [List.replicate_succ, List.flatten_cons, ih, List.replicate_succ]; rfl
/-! ### side by side -/
def FEq (a b : Int × Int) : Prop := a.1 * b.2 = b.1 * a.2
theorem FEq.trans {a b c : Int × Int} (h : FEq a b) (h2 : FEq b c) (hb : 0 < b.2) : FEq a c := by
  unfold FEq at *
  refine Int.eq_of_mul_eq_mul_right (a := b.2) (by omega) ?_
  calc a.1 * c.2 * b.2 = (a.1 * b.2) * c.2 := by rw [Int.mul_right_comm]
    _ = b.1 * a.2 * c.2 := by rw [h]
    _ = (b.1 * c.2) * a.2 := by rw [Int.mul_right_comm]
    _ = c.1 * b.2 * a.2 := by rw [h2]
    _ = c.1 * a.2 * b.2 := by rw [Int.mul_right_comm]
def Chain : List S3 → Int × Int → Int × Int → Prop
  | [], a, b => FEq a b
  | s :: r, a, b => FEq a (s.l, s.t) ∧ 1 ≤ s.w ∧ 1 ≤ s.t ∧ Chain r (s.l + s.w, s.t) b
theorem chain_front : ∀ {l : List S3} {a a' b : Int × Int}, FEq a' a → 0 < a.2 → Chain l a b → Chain l a' b
  | [], _, _, _, e, h, c => e.trans c h
  | _ :: _, _, _, _, e, h, c => ⟨e.trans c.1 h, c.2⟩
theorem chain_app : ∀ {l r : List S3} {a b c : Int × Int}, Chain l a b → 0 < b.2 → Chain r b c → Chain (l ++ r) a c
  | [], _, _, _, _, h, hb, k => chain_front h hb k
  | _ :: _, _, _, _, _, h, hb, k => ⟨h.1, h.2.1, h.2.2.1, chain_app h.2.2.2 hb k⟩
theorem chain_back : ∀ {l : List S3} {a b b' : Int × Int}, Chain l a b → 0 < b.2 → FEq b b' → Chain l a b'
  | [], _, _, _, h, hb, k => h.trans k hb
  | _ :: _, _, _, _, h, hb, k => ⟨h.1, h.2.1, h.2.2.1, chain_back h.2.2.2 hb k⟩
theorem chain_refine {α : Type} {S : α → S3} {sub : α → List S3} : ∀ {l : List α} {a b : Int × Int}, Chain (l.map S) a b → (∀ t ∈ l, Chain (sub t) ((S t).l, (S t).t) ((S t).l + (S t).w, (S t).t)) → Chain (l.flatMap sub) a b
  | [], _, _, h, _ => h
  | t :: r, a, b, h, k => by
    rw [List.flatMap_cons]
    obtain ⟨h1, h2, h3, h4⟩ := h
    exact chain_app (chain_front h1 h3 (k t List.mem_cons_self)) h3 (chain_refine h4 fun u hu => k u (List.mem_cons_of_mem _ hu))
theorem take_succ_sum {cs : List Int} {k : Nat} (h : k < cs.length) : (cs.take (k + 1)).sum = (cs.take k).sum + nth cs (k : Int) := by
  unfold nth
  rw [Int.toNat_natCast, List.take_add_one, List.getElem?_eq_getElem h, List.sum_append, List.getD_eq_getElem?_getD, List.getElem?_eq_getElem h]
  simp
theorem chain_sub {cs : List Int} {g : Int} {s : S3} {n : Nat} (p : Plan cs g) (ok : s.Ok n) : ∀ k, k ≤ cs.length → Chain ((List.range k).map fun (x : Nat) => s.by (belowOf cs (x : Int)) (nth cs (x : Int)) cs.sum) (s.l, s.t) (s.l * cs.sum + s.w * (cs.take k).sum, s.t * cs.sum)
  | 0, _ => by
    show s.l * (s.t * cs.sum) = (s.l * cs.sum + s.w * 0) * s.t
    rw [Int.mul_zero, Int.add_zero, Int.mul_comm s.t, Int.mul_assoc]
  | k + 1, h => by
    have hs := plan_share p (s := (k : Int)) (by omega) (by omega)
    have q1 : 1 ≤ cs.sum := by have := hs.b0; have := hs.c1; have := hs.bc; omega
    have t1 : 1 ≤ s.t * cs.sum := by
      have := Int.mul_le_mul_of_nonneg_left q1 (show 0 ≤ s.t by have := ok.t1; omega)
      have := ok.t1
      omega
    have w1 : 1 ≤ s.w * nth cs (k : Int) := by
      have := Int.mul_le_mul_of_nonneg_left hs.c1 (show 0 ≤ s.w by have := ok.w1; omega)
      have := ok.w1
      omega
    rw [List.range_succ, List.map_append]
    refine chain_app (chain_sub p ok k (by omega)) (by show 0 < s.t * cs.sum; omega) ?_
    have eb : belowOf cs (k : Int) = (cs.take k).sum := by
      show (cs.take (k : Int).toNat).sum = _
      rw [Int.toNat_natCast]
    refine ⟨?_, w1, t1, ?_⟩
    · show _ * (s.t * cs.sum) = (s.l * cs.sum + s.w * belowOf cs (k : Int)) * (s.t * cs.sum)
      rw [eb]
    · show (s.l * cs.sum + s.w * belowOf cs (k : Int) + s.w * nth cs (k : Int)) * (s.t * cs.sum) = (s.l * cs.sum + s.w * (cs.take (k + 1)).sum) * (s.t * cs.sum)
      rw [eb, take_succ_sum (by omega), Int.mul_add, Int.add_assoc]
/-- all texts with so many signs, in order -/
def textsB (n : Nat) : Nat → List (List Int)
  | 0 => [[]]
  | m + 1 => (textsB n m).flatMap fun t => (List.range n).map fun (x : Nat) => t ++ [(x : Int)]
theorem textsB_ok {n : Nat} : ∀ {m : Nat} {t : List Int}, t ∈ textsB n m → t.length = m ∧ ∀ x ∈ t, 0 ≤ x ∧ x < n
  | 0, t, h => by
    rw [List.mem_singleton.mp h]
    exact ⟨rfl, fun x hx => nomatch hx⟩
  | m + 1, t, h => by
    obtain ⟨u, hu, h2⟩ := List.mem_flatMap.mp h
    obtain ⟨x, hx, rfl⟩ := List.mem_map.mp h2
    have k := textsB_ok hu
    have hx := List.mem_range.mp hx
    refine ⟨by rw [List.length_append, k.1]; rfl, fun y hy => ?_⟩
    rcases List.mem_append.mp hy with hy | hy
    · exact k.2 y hy
    · rw [List.mem_singleton.mp hy]
      omega
theorem textsB_len {n : Nat} (h : n ≤ 8) : ∀ m, (textsB n m).length ≤ 8 ^ m
  | 0 => Nat.le_refl 1
  | m + 1 => by
    have := textsB_len h m
    show ((textsB n m).flatMap _).length ≤ _
    rw [List.length_flatMap]
    have e : (textsB n m).map (fun t => ((List.range n).map fun (x : Nat) => t ++ [(x : Int)]).length) = (textsB n m).map fun _ => n := by
      refine List.map_congr_left fun t _ => ?_
      rw [List.length_map, List.length_range]
    rw [e, List.map_const', List.sum_replicate_nat, Nat.pow_succ]
    exact Nat.mul_le_mul this h
theorem chain_texts {cs : List Int} {g : Int} (p : Plan cs g) : ∀ m, m ≤ 60 → Chain ((textsB cs.length m).map (textS cs g)) (0, 1) (1, 1)
  | 0, _ => ⟨rfl, Int.le_refl 1, Int.le_refl 1, rfl⟩
  | m + 1, h => by
    show Chain (((textsB cs.length m).flatMap _).map _) _ _
    rw [List.map_flatMap]
    refine chain_refine (chain_texts p m (by omega)) fun t ht => ?_
    obtain ⟨hl, hx⟩ := textsB_ok ht
    obtain ⟨pa, la⟩ := after_ok p hx
    have ok := textS_ok p (ss := t) ⟨by omega, fun x hh => by have := hx x hh; omega⟩
    have c := chain_sub pa ok cs.length (by omega)
    have hs := plan_share pa (s := 0) (by omega) (by have := p.two; omega)
    have q1 : 1 ≤ (after cs g t).sum := by have := hs.b0; have := hs.c1; have := hs.bc; omega
    have t1 : 0 < (textS cs g t).t * (after cs g t).sum := Int.mul_pos (by have := ok.t1; omega) (by omega)
    rw [List.map_map]
    have e : (textS cs g ∘ fun (x : Nat) => t ++ [(x : Int)]) = fun (x : Nat) => (textS cs g t).by (belowOf (after cs g t) (x : Int)) (nth (after cs g t) (x : Int)) (after cs g t).sum := funext fun x => strOf_snoc g x t whole3 cs
    rw [e]
    refine chain_back c t1 ?_
    rw [← la, List.take_length]
    show ((textS cs g t).l * _ + (textS cs g t).w * _) * (textS cs g t).t = ((textS cs g t).l + (textS cs g t).w) * ((textS cs g t).t * _)
    rw [← Int.add_mul, Int.mul_comm (textS cs g t).t, Int.mul_assoc]
theorem by_within {s : S3} {n : Nat} {b c q : Int} (ok : s.Ok n) (hs : Share b c q) : withinB (s.by b c q) s = true := by
  have t1 := ok.t1; have w1 := ok.w1
  have b0 := hs.b0; have c1 := hs.c1; have bc := hs.bc
  have e1 : (s.by b c q).l * s.t = s.l * (s.by b c q).t + s.w * b * s.t := by
    show (s.l * q + s.w * b) * s.t = s.l * (s.t * q) + s.w * b * s.t
    rw [Int.add_mul, Int.mul_comm s.t q, Int.mul_assoc s.l]
  have h1 : 0 ≤ s.w * b * s.t := Int.mul_nonneg (Int.mul_nonneg (by omega) b0) (by omega)
  have m4 : s.w * (b + c) * s.t ≤ s.w * q * s.t := Int.mul_le_mul_of_nonneg_right (Int.mul_le_mul_of_nonneg_left bc (by omega)) (by omega)
  have e2 : ((s.by b c q).l + (s.by b c q).w) * s.t = s.l * (s.by b c q).t + s.w * (b + c) * s.t := by
    show (s.l * q + s.w * b + s.w * c) * s.t = s.l * (s.t * q) + s.w * (b + c) * s.t
    rw [Int.add_assoc, ← Int.mul_add, Int.add_mul, Int.mul_comm s.t q, Int.mul_assoc s.l]
  have e3 : (s.l + s.w) * (s.by b c q).t = s.l * (s.by b c q).t + s.w * q * s.t := by
    show (s.l + s.w) * (s.t * q) = s.l * (s.t * q) + s.w * q * s.t
    rw [Int.add_mul, Int.mul_comm s.t q, Int.mul_assoc s.w]
  unfold withinB
  rw [decide_eq_false (by omega), decide_eq_true (by omega)]
  rfl
/-- list + list, also what no one tracks -/
def rCatL (K : PySem.W.Frag) : R2 := fun x y H Q => ∃ l b xs zs, x = .ref l ∧ y = .ref b ∧ SqL K H l xs ∧ SqL K H b zs ∧ xs.length + zs.length ≤ sizeLine ∧ ∀ p, H p = none → Q (.ref p) (upd H p (.lst (xs ++ zs)))
theorem op_catL {X : Cx} : OpR X (binaryOp .Add) (rCatL X.K) := by
  intro pins s σ H x y v u Q I rx ry h
  obtain ⟨l, b, xs, zs, rfl, rfl, hH, hB, hz, q⟩ := h
  cases rx
  cases ry
  obtain ⟨its, r, ⟨⟨cls, dd, data, sl⟩, n, ho, hc, hdd, hd⟩, hl⟩ := I.list hH
  obtain ⟨its2, r2, ⟨⟨cls2, dd2, data2, sl2⟩, n2, ho2, hc2, hdd2, hd2⟩, hl2⟩ := I.list hB
  simp only at hc hd hc2 hd2
  subst hc hd hc2 hd2
  have e1 := r.length
  have e2 := r2.length
  have ea : its.toArray ++ its2.toArray = (its ++ its2).toArray := by simp
  refine concat_meets ⟨_, ho, rfl⟩ ⟨_, ho2, rfl⟩ noFill_list_add seq_list_add PySem.F.slot_list_add PySem.F.entry_list_add (PySem.F.args_list_add_2 _ _) (list_addW l b its.toArray its2.toArray n n2 dd dd2 sl sl2 (by rw [List.size_toArray, List.size_toArray]; omega)) ⟨ho, ho2, ?_⟩
  rw [ea]
  exact ⟨.ref _, _, I.lnew (t' := s.toks) (r.append r2) (by rw [List.length_append]; omega), rfl, q _ I.fresh⟩
theorem op_catLK {X : Cx} {K : PySem.W.Frag} (h : X.K = K) : OpR X (binaryOp .Add) (rCatL K) := by subst h; exact op_catL
theorem cut_last {xs : List V} : cutV xs none (some (-1)) = xs.dropLast := by
  unfold cutV
  rw [HT.sIx_none, List.drop_zero, List.dropLast_eq_take]
  refine congrArg (fun n => xs.take n) ?_
  show ((-1 : Int) + xs.length).toNat - 0 = _
  omega
theorem dpa_last {K : PySem.W.Frag} {H : Hp} {vs : List V} {ds : List PyData} (h : DpAll K H vs ds) : DpAll K H vs.dropLast ds.dropLast := by
  rw [List.dropLast_eq_take, List.dropLast_eq_take, dpa_len h]
  exact dpa_take h
section
variable {K : PySem.W.Frag} {te ta tb : TE} {σ : L2.St} {H : Hp} {ds es : List PyData} {u tw : TS} {D : Ends} {i j : Nat} {n : Int}
theorem evo_catL (ha : EvD K ta σ H (.list ds)) (hb : EvD K tb σ H (.list es)) (hl : ds.length + es.length ≤ 100000) : EvO K (tOp (rCatL K) ta tb) σ H (ds ++ es) := fun H1 Q s1 k =>
  ha H1 _ s1 fun v H2 s2 d2 => hb H2 _ (s1.trans s2) fun y H3 s3 d3 => by
    cases d2 with
    | lst h2 a2 =>
      cases d3 with
      | lst h3 a3 => exact ⟨_, _, _, _, rfl, rfl, s3.seq h2, h3, by rw [dpa_len a2, dpa_len a3]; exact Nat.le_trans hl (by decide), fun l nl =>
          k l _ _ ((s2.trans s3).free nl) ((s2.trans s3).trans (same_upd nl)) upd_same (dpa_app (dpa_same (s3.trans (same_upd nl)) _ _ a2) (dpa_same (same_upd nl) _ _ a3))⟩
theorem asgLastO (h : EvO K te σ H ds) (k : ∀ p vs H1, H p = none → Same H H1 → H1 p = some (.lst vs) → DpAll K H1 vs ds → D.nx (σ.set i (some (.ref p))) H1) : tAsg te (gName i) D σ H := h H _ (Same.refl H) fun p vs H1 np s e d => k p vs H1 np s e d
theorem forR {m : Nat} (he : EvV te σ H (.int (m : Int))) (hz : m ≤ 100000) (Pv : Nat → L2.St → Hp → Prop) (h0 : ∀ H1, Same H H1 → Pv 0 σ H1)
    (hs : ∀ i σ' H', i < m → Pv i σ' H' → tw { nx := Pv (i + 1), rt := D.rt, bk := u D, ct := Pv (i + 1) } (σ'.set j (some (.int (i : Int)))) H') (hd : ∀ σ' H', Pv m σ' H' → u D σ' H') : tSeq (tFor (iRng1 (tCons te tNil)) (gName j) tw) u D σ H :=
  he H _ (Same.refl H) fun H1 s1 => ⟨(m : Int), rfl, by omega, by omega, by
    rw [Int.toNat_natCast]
    exact for_range (lo := 0) (n := m) (D := { D with nx := u D }) Pv (h0 H1 s1) (fun i σ' H' hi p => by
      have := hs i σ' H' hi p
      rw [← Int.zero_add (i : Int)] at this
      exact this) hd⟩
theorem evo_lastG (h : EvD K te σ H (.list ds)) (hn : EvV ta σ H (.int (-1))) : EvO K (tSl (rSlL K) te tNoPart (tPart ta)) σ H ds.dropLast := fun H1 Q s1 k =>
  h H1 _ s1 fun v H2 s2 d2 => hn H2 _ (s1.trans s2) fun H3 s3 => ⟨-1, rfl, by
    cases d2 with
    | lst hs ha => exact ⟨_, _, rfl, s3.seq hs, fun p np => k p _ _ ((s2.trans s3).free np) ((s2.trans s3).trans (same_upd np)) upd_same (by
        rw [cut_last]
        exact dpa_last (dpa_same (s3.trans (same_upd np)) _ _ ha))⟩⟩
theorem evo_last (h : EvD K te σ H (.list ds)) : EvO K (tSl (rSlL K) te tNoPart (tPart (tUn (rU fun i => V.int (-i)) (tC (.int 1))))) σ H ds.dropLast := evo_lastG h (ev_neg ev_c)
end
/-! ### some of the errors' classes only -/
def errR1 (K : PySem.W.Frag) (e : Err) : Bool := PySem.W.excIn K (errC K e) He.veBase "ValueError.__new__" && (PySem.W.keepIn K (.ref (errC K e)) && (decide (PySem.W.subIn K (.ref (errC K e)) (.type "BaseException") = some true) && decide (PySem.W.typeIn K (.ref (errC K e)) = some (.type "type"))))
def errsR (es : List Err) (K : PySem.W.Frag) : Bool := es.all fun e => errR1 K e
theorem errsR_ok {es : List Err} {K : PySem.W.Frag} (h : errsR es K = true) (e : Err) (hm : e ∈ es) : PySem.W.excIn K (errC K e) He.veBase "ValueError.__new__" = true ∧ PySem.W.keepIn K (.ref (errC K e)) = true ∧ PySem.W.subIn K (.ref (errC K e)) (.type "BaseException") = some true ∧ PySem.W.typeIn K (.ref (errC K e)) = some (.type "type") := by
  obtain ⟨h1, h⟩ := He.ba (List.all_eq_true.mp h e hm)
  obtain ⟨h2, h⟩ := He.ba h
  obtain ⟨h3, h4⟩ := He.ba h
  exact ⟨h1, h2, of_decide_eq_true h3, of_decide_eq_true h4⟩
end Pl

namespace Pl
open PySem PySem.Spec PyProof.Rows L2
def topS (i : Nat) : Stmt := PySem.Challenge.pw_partline_k03_whole_side_by_side.main.body.getD i (.Pass ⟨0, 0, 0, 0⟩)
abbrev FnP (K : PySem.W.Frag) (x : Str) (st : Stmt) (f : Addr) (fd : FuncData) : Prop := FunD K x x (defArgs st) (defBody st) (defScope st) [] [] f fd
abbrev PP : Program := PySem.Challenge.pw_partline_k03_whole_side_by_side

local macro_rules | `(tactic| walk_at "rd") => `(tactic| simp only [tSeq, tAsg, tRet, tRetN, tIfS, tNext, tDrop, tVar, tC, tOp, tUn, tTest, tB, tAnd, tOr, tNot, tAndV, tOrV, tNotV, tChain, tCons, tNil, tCB, tIf, tCall, tCallS, wipe, tTup, tLst, tSl, tNoPart, tPart, gSub, Evl.tCut, tM1, rLenK, rTupK, rListK, gName, gTup, gCons, gNil, rI, rI0, rU, rEq, rNe, scal, L2.start, List.length_cons, List.length_nil, List.map_cons, List.map_nil, List.append_nil, List.cons_append, List.nil_append, List.replicate, Nat.reduceAdd, Nat.reduceSub, Nat.zero_add, List.cons.injEq,
   List.getElem?_cons_zero, List.getElem?_cons_succ, List.set_cons_zero, List.set_cons_succ, Option.some.injEq, V.int.injEq, V.bl.injEq, V.ref.injEq, V.ty.injEq, V.str.injEq, exists_eq_left', exists_eq_left, exists_eq', exists_eq, exists_and_left, exists_and_right, reduceCtorEq, and_true, true_and, and_assoc, ite_true, ite_false, if_true, if_false, Bool.false_eq_true, false_and, and_false, exists_false, or_false, false_or, Bool.not_true, Bool.not_false])
local macro_rules | `(tactic| walk_at "nx") => `(tactic| (refine hold ?_; walk_at "rd"))

section
variable {P : Program} {w : World} {K : PySem.W.Frag} {mg : Str → Option Value} {base : Heap} {f : Addr} {fd : FuncData}
abbrev s_is_whole : Stmt := topS 5
theorem sc_is_whole : FnScope ["value", "least", "most"] ["value", "least", "most"] (defScope s_is_whole) := ⟨rfl, rfl, rfl, by decide +kernel, rfl, by decide +kernel, by decide +kernel⟩

def sp_is_whole (K : PySem.W.Frag) : Sp := fun vs H Q _ => ∃ (v : V) (d : PyData) (lo hi : Int), vs = [v, .int lo, .int hi] ∧ Dp K H v d ∧ Q (.bl (isWhole d lo hi)) H
theorem ok_is_whole (F : FnP K "is_whole" s_is_whole f fd) (z_type : mg "type" = none) (z_int : mg "int" = none) : FnOk P w K mg base CX0 1 f fd ["value", "least", "most"] (sp_is_whole K) := by
  refine F.ok sc_is_whole (fun vs H Q E h => ?_) (fun cdv A outer s H vs Q E hr h => ?_)
  · obtain ⟨_, _, _, _, rfl, _⟩ := h
    rfl
  · obtain ⟨v, d, lo, hi, rfl, hd, q⟩ := h
    refine ⟨_, PSs.nox (pss_one (ps_ret (pe_and (pe_cmpR op_eqTy (pe_callTy (typeK (K := K) rfl) (by rfl) z_type (by decide +kernel) (pa_cons (pv 0) pa_nil)) (pe_bltn (v := .ty "int") (u := .type "int") (by rfl) z_int (by decide +kernel) rfl) (nomark _)) (pe_one (pe_chain op_le op_le (pv 1) (pv 0) (pv 2)))))), ?_⟩
    walk_at "rd"
    refine ⟨v, d, rfl, hd, _, _, rfl, rfl, tyName_mem d, by decide, _, rfl, ?_⟩
    cases hd with
    | int i =>
      refine ite2 (fun _ => ?_) (fun z => absurd (decide_eq_true rfl) z)
      refine ⟨i, rfl, ?_⟩
      have e : isWhole (.int i) lo hi = (decide (lo ≤ i) && decide (i ≤ hi)) := rfl
      rw [e] at q
      by_cases c : lo ≤ i
      · rw [decide_eq_true c] at q
        rw [decide_eq_true c]
        exact iteT ⟨i, rfl, q⟩
      · rw [decide_eq_false c] at q
        rw [decide_eq_false c]
        exact iteF q
    | _ => exact iteF q
abbrev s_are_whole : Stmt := topS 6
theorem sc_are_whole : FnScope ["values", "least", "most", "value"] ["values", "least", "most"] (defScope s_are_whole) := ⟨rfl, rfl, rfl, by decide +kernel, rfl, by decide +kernel, by decide +kernel⟩

def sp_are_whole (K : PySem.W.Frag) : Sp := fun vs H Q _ => ∃ (a : Addr) (xs : List V) (ds : List PyData) (lo hi : Int), vs = [.ref a, .int lo, .int hi] ∧ (SqL K H a xs ∨ SqT K H a xs) ∧ DpAll K H xs ds ∧ ds.length ≤ 4001 ∧ ∀ H', Same H H' → Q (.bl (areWhole ds lo hi)) H'
theorem ok_are_whole (F : FnP K "are_whole" s_are_whole f fd) (c_is_whole : Cal P w K mg base CX0 1 "is_whole" ["value", "least", "most"] (sp_is_whole K)) (z_all : mg "all" = none) : FnOk P w K mg base CX0 2 f fd ["values", "least", "most"] (sp_are_whole K) := by
  refine F.ok sc_are_whole (fun vs H Q E h => ?_) (fun cdv A outer s H vs Q E hr h => ?_)
  · obtain ⟨_, _, _, _, _, rfl, _⟩ := h
    rfl
  · obtain ⟨a, xs, ds, lo, hi, rfl, hs, hd, hl, q⟩ := h
    rcases hs with hs | hs
    · refine ⟨_, PSs.nox (pss_one (ps_ret (pe_callB (allK (K := K) rfl rfl) (by rfl) z_all (by decide +kernel) (pa_cons (pe_lc (own := [("value", 3)]) (g := gName 3) rfl sc_are_whole.nd (pi_listK (K := K) rfl (pv 0)) (blkOk_by (own := [("value", 3)]) (N := ["values", "least", "most", "value"]) (sc := defScope s_are_whole) (by decide +kernel)) (fun _ _ _ _ _ => pg_name (i := 3) sc_are_whole.nd rfl (Or.inl rfl)) (fun _ _ _ _ _ => pts_nil) (fun _ _ _ _ _ => (pe_f c_is_whole (hr.mono (by decide)) (pa_cons (pv 3) (pa_cons (pv 1) (pa_cons (pv 2) pa_nil)))))) pa_nil)))), ?_⟩
      walk_at "rd"
      refine lc_dpL (fun _ => true) (fun n => .bool (isWhole (ds.getD n .none) lo hi)) (fun R h => ⟨_, rfl, h⟩) hs (by rw [dpa_len hd]; omega) (fun n x H' R _ _ k => yes_t k) (fun n x H' D R e _ hD _ sm k => ?_) (fun D acc H' hD sm e dp => ?_)
      · obtain ⟨d, ed, dx⟩ := dpa_get2 hd e
        walk_at "rd"
        refine ⟨x, d, lo, hi, rfl, dp_same sm _ _ dx, ?_⟩
        have z := k (.bl (isWhole d lo hi)) H' (Same.refl _) (by rw [getD_of ed]; exact .bl _)
        exact z
      · rw [dpa_len hd, filter_yes, range_get ds (fun d => PyData.bool (isWhole d lo hi)) PyData.none] at dp
        have ea : acc = (ds.map fun d => isWhole d lo hi).map V.bl := dpa_bools (by rw [List.map_map]; exact dp)
        refine ⟨D, ds.map fun d => isWhole d lo hi, rfl, .inl (.inl (by rw [e, ea])), ?_⟩
        have ez : (ds.map fun d => isWhole d lo hi).all id = areWhole ds lo hi := by
          unfold areWhole
          rw [List.all_map]
          rfl
        rw [ez]
        exact q H' sm
    · refine ⟨_, PSs.nox (pss_one (ps_ret (pe_callB (allK (K := K) rfl rfl) (by rfl) z_all (by decide +kernel) (pa_cons (pe_lc (own := [("value", 3)]) (g := gName 3) rfl sc_are_whole.nd (pi_tupK (K := K) rfl (pv 0)) (blkOk_by (own := [("value", 3)]) (N := ["values", "least", "most", "value"]) (sc := defScope s_are_whole) (by decide +kernel)) (fun _ _ _ _ _ => pg_name (i := 3) sc_are_whole.nd rfl (Or.inl rfl)) (fun _ _ _ _ _ => pts_nil) (fun _ _ _ _ _ => (pe_f c_is_whole (hr.mono (by decide)) (pa_cons (pv 3) (pa_cons (pv 1) (pa_cons (pv 2) pa_nil)))))) pa_nil)))), ?_⟩
      walk_at "rd"
      refine lc_dpT (fun _ => true) (fun n => .bool (isWhole (ds.getD n .none) lo hi)) (fun R h => ⟨_, rfl, h⟩) hs (by rw [dpa_len hd]; omega) (fun n x H' R _ _ k => yes_t k) (fun n x H' D R e _ hD _ sm k => ?_) (fun D acc H' hD sm e dp => ?_)
      · obtain ⟨d, ed, dx⟩ := dpa_get2 hd e
        walk_at "rd"
        refine ⟨x, d, lo, hi, rfl, dp_same sm _ _ dx, ?_⟩
        have z := k (.bl (isWhole d lo hi)) H' (Same.refl _) (by rw [getD_of ed]; exact .bl _)
        exact z
      · rw [dpa_len hd, filter_yes, range_get ds (fun d => PyData.bool (isWhole d lo hi)) PyData.none] at dp
        have ea : acc = (ds.map fun d => isWhole d lo hi).map V.bl := dpa_bools (by rw [List.map_map]; exact dp)
        refine ⟨D, ds.map fun d => isWhole d lo hi, rfl, .inl (.inl (by rw [e, ea])), ?_⟩
        have ez : (ds.map fun d => isWhole d lo hi).all id = areWhole ds lo hi := by
          unfold areWhole
          rw [List.all_map]
          rfl
        rw [ez]
        exact q H' sm

abbrev s_is_whole_list : Stmt := topS 7
theorem sc_is_whole_list : FnScope ["values", "longest", "least", "most"] ["values", "longest", "least", "most"] (defScope s_is_whole_list) := ⟨rfl, rfl, rfl, by decide +kernel, rfl, by decide +kernel, by decide +kernel⟩

def sp_is_whole_list (K : PySem.W.Frag) : Sp := fun vs H Q _ => ∃ (v : V) (d : PyData) (n : Nat) (lo hi : Int), vs = [v, .int n, .int lo, .int hi] ∧ n ≤ 4000 ∧ Dp K H v d ∧ ∀ H', Same H H' → Q (.bl (isWholeList d n lo hi)) H'
theorem ok_is_whole_list (F : FnP K "is_whole_list" s_is_whole_list f fd) (c_are_whole : Cal P w K mg base CX0 2 "are_whole" ["values", "least", "most"] (sp_are_whole K)) (z_type : mg "type" = none) (z_list : mg "list" = none) (z_len : mg "len" = none) :
    FnOk P w K mg base CX0 3 f fd ["values", "longest", "least", "most"] (sp_is_whole_list K) := by
  refine F.ok sc_is_whole_list (fun vs H Q E h => ?_) (fun cdv A outer s H vs Q E hr h => ?_)
  · obtain ⟨_, _, _, _, _, rfl, _⟩ := h
    rfl
  · obtain ⟨v, d, n, lo, hi, rfl, hn, hd, q⟩ := h
    refine ⟨_, PSs.nox (pss_cons (ps_if (PW.pt (pw_or (pt_cmpR op_neTy (pe_callTy (typeK (K := K) rfl) (by rfl) z_type (by decide +kernel) (pa_cons (pv 0) pa_nil)) (pe_bltn (v := .ty "list") (u := .type "list") (by rfl) z_list (by decide +kernel) rfl) (nomark _)) (pw_or1 (pt_cmpR op_gt (pe_callB (lenK (K := K) rfl) (by rfl) z_len (by decide +kernel) (pa_cons (pv 0) pa_nil)) (pv 1) (nomark _))))) (pss_one (ps_ret pe_bl)) pss_nil)
      (pss_one (ps_ret (pe_f c_are_whole (hr.mono (by decide)) (pa_cons (pv 0) (pa_cons (pv 2) (pa_cons (pv 3) pa_nil))))))), ?_⟩
    walk_at "rd"
    refine ⟨v, d, rfl, hd, _, _, rfl, rfl, tyName_mem d, by decide, _, rfl, ?_⟩
    cases hd with
    | lst hs ha =>
      rename_i a xs ds
      refine iteF ?_
      have hlen := dpa_len ha
      refine ⟨a, rfl, xs, .inl hs, ?_⟩
      refine ite2 (fun c => ?_) (fun c => ?_)
      · have c2 := of_decide_eq_true c
        have e : isWholeList (.list ds) n lo hi = false := by
          show (decide (ds.length ≤ n) && areWhole ds lo hi) = false
          rw [decide_eq_false (by omega)]
          rfl
        rw [e] at q
        exact q _ (Same.refl _)
      · have c2 : ¬ (n : Int) < xs.length := fun z => c (decide_eq_true z)
        have e : isWholeList (.list ds) n lo hi = areWhole ds lo hi := by
          show (decide (ds.length ≤ n) && areWhole ds lo hi) = areWhole ds lo hi
          rw [decide_eq_true (by omega)]
          rfl
        rw [e] at q
        exact ⟨a, xs, ds, lo, hi, rfl, .inl hs, ha, by omega, q⟩
    | _ => exact iteT (q _ (Same.refl _))
end

section
variable {P : Program} {w : World} {K : PySem.W.Frag} {mg : Str → Option Value} {base : Heap} {f : Addr} {fd : FuncData}
abbrev s_need_plan : Stmt := topS 14
theorem sc_need_plan : FnScope ["plan", "counts", "gain"] ["plan"] (defScope s_need_plan) := ⟨rfl, rfl, rfl, by decide +kernel, rfl, by decide +kernel, by decide +kernel⟩

def needPlanF : List PyData → Except Err PyData
  | [d] => if isPlan d then .ok .none else .error .plan
  | _ => .ok .none
abbrev sp_need_plan (K : PySem.W.Frag) : Sp := PSpX K 1 needPlanF
theorem len1 {K : PySem.W.Frag} {n : Nat} {g : List PyData → Except Err PyData} {vs : List V} {H : Hp} {Q : VK} {E : XK} (h : PSpX K n g vs H Q E) : vs.length = n := by
  obtain ⟨ds, hd, hl, _⟩ := h
  rw [dpa_len hd, hl]
/-- the refusal, at a heap that keeps what stood -/
theorem no_plan {K : PySem.W.Frag} {d : PyData} {E : XK} {H : Hp} (h : isPlan d = false) (kE : ∀ e, needPlanF [d] = .error e → ∀ H', Same H H' → E (.ref (errC K e)) none H') {H' : Hp} (s : Same H H') : E (.ref (errC K .plan)) none H' :=
  kE .plan (if_neg (by rw [h]; exact Bool.false_ne_true)) H' s
theorem ok_need_plan (F : FnP K "need_plan" s_need_plan f fd) (c_is_whole : Cal P w K mg base CX0 1 "is_whole" ["value", "least", "most"] (sp_is_whole K)) (c_are_whole : Cal P w K mg base CX0 2 "are_whole" ["values", "least", "most"] (sp_are_whole K))
    (x_BadPlan : Exn K mg .plan) (z_type : mg "type" = none) (z_tuple : mg "tuple" = none) (z_len : mg "len" = none) {u1 u2 u3 u4 : Tok} (g_FEWEST_COUNTS : mg "FEWEST_COUNTS" = some (.int 2 u1)) (g_MOST_COUNTS : mg "MOST_COUNTS" = some (.int 8 u2)) (g_GREATEST_COUNT : mg "GREATEST_COUNT" = some (.int 1000000 u3)) (g_GREATEST_GAIN : mg "GREATEST_GAIN" = some (.int 1000000 u4)) :
    FnOk P w K mg base (L2N.CX P w) 3 f fd ["plan"] (sp_need_plan K) := by
  refine F.ok sc_need_plan (fun vs H Q E h => len1 h) (fun cdv A outer s H vs Q E hr h => ?_)
  obtain ⟨ds, hds, hl, kQ, kE⟩ := h
  obtain ⟨d, rfl⟩ : ∃ d, ds = [d] := match ds, hl with | [d], _ => ⟨d, rfl⟩
  cases hds with
  | cons hd hn =>
  cases hn
  rename_i v
  refine ⟨_, (pss_cons (ps_if (PW.pt (pw_or (pt_cmpR op_neTy (pe_callTy (typeK (K := K) rfl) (by rfl) z_type (by decide +kernel) (pa_cons (pv 0) pa_nil)) (pe_bltn (v := .ty "tuple") (u := .type "tuple") (by rfl) z_tuple (by decide +kernel) rfl) (nomark _)) (pw_or1 (pt_cmpR op_ne (pe_callB (lenK (K := K) rfl) (by rfl) z_len (by decide +kernel) (pa_cons (pv 0) pa_nil)) pe_int (nomark _))))) (pss_one (L2N.ps_raise rfl (L2N.takes_of rfl rfl rfl rfl) (L2N.pmk_own PySem.F.excBase_ValueError x_BadPlan.x x_BadPlan.g x_BadPlan.k (raises_own x_BadPlan.b x_BadPlan.t) rfl))) pss_nil)
      (pss_cons (ps_asg (pv 0) (pg_tupK (K := K) (n := 2) rfl rfl (pgs_cons (pg_name (i := 1) sc_need_plan.nd rfl (.inl rfl)) (pgs_cons (pg_name (i := 2) sc_need_plan.nd rfl (.inl rfl)) pgs_nil))))
      (pss_cons (ps_if (pt_cmpR op_neTy (pe_callTy (typeK (K := K) rfl) (by rfl) z_type (by decide +kernel) (pa_cons (pv 1) pa_nil)) (pe_bltn (v := .ty "tuple") (u := .type "tuple") (by rfl) z_tuple (by decide +kernel) rfl) (nomark _)) (pss_one (L2N.ps_raise rfl (L2N.takes_of rfl rfl rfl rfl) (L2N.pmk_own PySem.F.excBase_ValueError x_BadPlan.x x_BadPlan.g x_BadPlan.k (raises_own x_BadPlan.b x_BadPlan.t) rfl))) pss_nil)
      (pss_cons (ps_if (pt_not (pt_chain op_le op_le (pe_glob (v := .int 2) rfl g_FEWEST_COUNTS ⟨_, rfl⟩) (pe_callB (lenK (K := K) rfl) (by rfl) z_len (by decide +kernel) (pa_cons (pv 1) pa_nil)) (pe_glob (v := .int 8) rfl g_MOST_COUNTS ⟨_, rfl⟩))) (pss_one (L2N.ps_raise rfl (L2N.takes_of rfl rfl rfl rfl) (L2N.pmk_own PySem.F.excBase_ValueError x_BadPlan.x x_BadPlan.g x_BadPlan.k (raises_own x_BadPlan.b x_BadPlan.t) rfl))) pss_nil)
      (pss_cons (ps_if (pt_not (pt_val (pe_f c_are_whole (hr.mono (by decide)) (pa_cons (pv 1) (pa_cons pe_int (pa_cons (pe_glob (v := .int 1000000) rfl g_GREATEST_COUNT ⟨_, rfl⟩) pa_nil)))))) (pss_one (L2N.ps_raise rfl (L2N.takes_of rfl rfl rfl rfl) (L2N.pmk_own PySem.F.excBase_ValueError x_BadPlan.x x_BadPlan.g x_BadPlan.k (raises_own x_BadPlan.b x_BadPlan.t) rfl))) pss_nil)
      (pss_one (ps_if (pt_not (pt_val (pe_f c_is_whole (hr.mono (by decide)) (pa_cons (pv 2) (pa_cons pe_int (pa_cons (pe_glob (v := .int 1000000) rfl g_GREATEST_GAIN ⟨_, rfl⟩) pa_nil)))))) (pss_one (L2N.ps_raise rfl (L2N.takes_of rfl rfl rfl rfl) (L2N.pmk_own PySem.F.excBase_ValueError x_BadPlan.x x_BadPlan.g x_BadPlan.k (raises_own x_BadPlan.b x_BadPlan.t) rfl))) pss_nil))))))), ?_⟩
  walk_at "rd"
  refine ⟨v, d, rfl, hd, _, _, rfl, rfl, tyName_mem d, by decide, _, rfl, ?_⟩
  cases hd with
  | tup hs ha =>
    rename_i a xs ds
    refine iteF ⟨a, rfl, xs, .inr hs, ite2 (fun c => ?_) (fun c => ?_)⟩
    · have hx : ds.length ≠ 2 := fun z => by
        rw [dpa_len ha, z] at c
        exact absurd c (by decide)
      refine no_plan ?_ kE (Same.refl _)
      match ds, hx with
      | [], _ => rfl
      | [_], _ => rfl
      | [_, _], z => exact absurd rfl z
      | _ :: _ :: _ :: _, _ => rfl
    · have hx : ds.length = 2 := by
        rw [dpa_len ha] at c
        simp only [Bool.not_eq_true', decide_eq_false_iff_not, Decidable.not_not] at c
        exact_mod_cast c
      obtain ⟨dc, dg, rfl⟩ : ∃ dc dg, ds = [dc, dg] := match ds, hx with | [dc, dg], _ => ⟨dc, dg, rfl⟩
      cases ha with
      | cons hc hg =>
      cases hg with
      | cons hg hn =>
      cases hn
      rename_i vc vg
      refine ⟨a, rfl, _, hs, rfl, vc, _, rfl, vg, [], rfl, rfl, ?_⟩
      refine ⟨vc, dc, rfl, hc, _, _, rfl, rfl, tyName_mem dc, by decide, _, rfl, ?_⟩
      cases hc with
      | tup hcs hca =>
        rename_i ac cvs cds
        have hlc := dpa_len hca
        refine iteF ⟨ac, rfl, cvs, .inr hcs, ?_⟩
        have hb : isPlan (.tuple [.tuple cds, dg]) = (decide (2 ≤ cds.length) && decide (cds.length ≤ 8) && areWhole cds 1 1000000 && isWhole dg 0 1000000) := rfl
        refine ite2 (fun c2 => ?_) (fun c2 => ?_)
        · refine ite2 (fun c8 => ?_) (fun c8 => ?_)
          · refine no_plan ?_ kE (Same.refl _)
            simp only [Bool.not_eq_true', decide_eq_false_iff_not] at c8
            rw [hb, decide_eq_false (show ¬ cds.length ≤ 8 by omega), Bool.and_false]
            rfl
          · simp only [Bool.not_eq_true', decide_eq_false_iff_not, Decidable.not_not] at c8
            simp only [decide_eq_true_eq] at c2
            rw [decide_eq_true (show 2 ≤ cds.length by omega), decide_eq_true (show cds.length ≤ 8 by omega)] at hb
            refine ⟨ac, cvs, cds, 1, 1000000, rfl, .inr hcs, hca, by omega, fun H1 s1 => ⟨_, rfl, ?_⟩⟩
            cases ew : areWhole cds 1 1000000 with
            | false =>
              rw [ew] at hb
              exact iteT (no_plan hb kE s1)
            | true =>
              rw [ew] at hb
              refine iteF ⟨vg, dg, 0, 1000000, rfl, dp_same s1 _ _ hg, _, rfl, ?_⟩
              cases eg : isWhole dg 0 1000000 with
              | false =>
                rw [eg] at hb
                exact iteT (no_plan hb kE s1)
              | true =>
                rw [eg] at hb
                exact iteF (kQ .none (if_pos hb) .non H1 s1 .non)
        · refine no_plan ?_ kE (Same.refl _)
          simp only [decide_eq_true_eq] at c2
          rw [hb, decide_eq_false (show ¬ 2 ≤ cds.length by omega)]
          rfl
      | _ => exact iteT (no_plan rfl kE (Same.refl _))
  | _ => exact iteT (no_plan rfl kE (Same.refl _))
abbrev s__last_sign : Stmt := topS 19
theorem sc__last_sign : FnScope ["plan"] ["plan"] (defScope s__last_sign) := ⟨rfl, rfl, rfl, by decide +kernel, rfl, by decide +kernel, by decide +kernel⟩

def sp_last_sign (K : PySem.W.Frag) : Sp := fun vs H Q _ => ∃ (v : V) (cs : List Int) (g : Int), vs = [v] ∧ Dp K H v (planD cs g) ∧ Q (.int ((cs.length : Int) - 1)) H
theorem ok_last_sign (F : FnP K "_last_sign" s__last_sign f fd) (z_len : mg "len" = none) : FnOk P w K mg base CX0 1 f fd ["plan"] (sp_last_sign K) := by
  refine F.ok sc__last_sign (fun vs H Q E h => ?_) (fun cdv A outer s H vs Q E hr h => ?_)
  · obtain ⟨_, _, _, rfl, _⟩ := h
    rfl
  · obtain ⟨v, cs, g, rfl, hd, q⟩ := h
    refine ⟨_, PSs.nox (pss_one (ps_ret (pe_op op_sub (pe_callB (lenK (K := K) rfl) (by rfl) z_len (by decide +kernel) (pa_cons (pe_ix (ix_tupK (K := K) rfl) (pv 0) pe_int (fun _ _ => rfl)) pa_nil)) pe_int))), ?_⟩
    walk_at "rd"
    obtain ⟨a, c, rfl, h1, h2⟩ := plan_at hd
    refine ⟨a, _, 0, .ref c, rfl, rfl, h1, rfl, c, rfl, _, .inr h2, ?_⟩
    rw [List.length_map]
    exact q
theorem needPlan_yes {d dn : PyData} (e : needPlanF [d] = .ok dn) : isPlan d = true := by
  cases h : isPlan d with
  | true => rfl
  | false =>
    have z : (if isPlan d = true then Except.ok PyData.none else Except.error Err.plan : Except Err PyData) = .ok dn := e
    rw [if_neg (by rw [h]; exact Bool.false_ne_true)] at z
    cases z
theorem needPlan_no {d : PyData} {er : Err} (e : needPlanF [d] = .error er) : er = .plan ∧ isPlan d = false := by
  have z : (if isPlan d = true then Except.ok PyData.none else Except.error Err.plan : Except Err PyData) = .error er := e
  cases h : isPlan d with
  | true =>
    rw [if_pos h] at z
    cases z
  | false =>
    rw [if_neg (by rw [h]; exact Bool.false_ne_true)] at z
    cases z
    exact ⟨rfl, rfl⟩
abbrev s__need_sign : Stmt := topS 18
theorem sc__need_sign : FnScope ["plan", "sign"] ["plan", "sign"] (defScope s__need_sign) := ⟨rfl, rfl, rfl, by decide +kernel, rfl, by decide +kernel, by decide +kernel⟩

/-- a sign of the plan, asked behind the plan itself -/
def signF (g : List Int → Int → Int → PyData) : List PyData → Except Err PyData
  | [d, x] => if isPlan d then (if isWhole x 0 (((countsOf d).length : Int) - 1) then .ok (g (countsOf d) (gainOf d) (toI x)) else .error .sign) else .error .plan
  | _ => .ok .none
theorem sign_noplan {k : List Int → Int → Int → PyData} {d x : PyData} (h : isPlan d = false) : signF k [d, x] = .error .plan := if_neg (by rw [h]; exact Bool.false_ne_true)
theorem sign_no {k : List Int → Int → Int → PyData} {cs : List Int} {g : Int} {x : PyData} (p : Plan cs g) (h : isWhole x 0 ((cs.length : Int) - 1) = false) : signF k [planD cs g, x] = .error .sign := by
  show (if isPlan (planD cs g) = true then _ else _) = _
  rw [if_pos (isPlan_of p), counts_planD, if_neg (by rw [h]; exact Bool.false_ne_true)]
theorem sign_yes {k : List Int → Int → Int → PyData} {cs : List Int} {g : Int} {x : PyData} (p : Plan cs g) (h : isWhole x 0 ((cs.length : Int) - 1) = true) : signF k [planD cs g, x] = .ok (k cs g (toI x)) := by
  show (if isPlan (planD cs g) = true then _ else _) = _
  rw [if_pos (isPlan_of p), counts_planD, if_pos h, gain_planD]
theorem sign_plan {k : List Int → Int → Int → PyData} {d x r : PyData} (e : signF k [d, x] = .ok r) : ∃ cs g s, d = planD cs g ∧ Plan cs g ∧ x = .int s ∧ 0 ≤ s ∧ s < cs.length ∧ r = k cs g s := by
  cases h : isPlan d with
  | false =>
    rw [sign_noplan h] at e
    cases e
  | true =>
    obtain ⟨cs, g, rfl, pl⟩ := isPlan_ok h
    cases hx : isWhole x 0 ((cs.length : Int) - 1) with
    | false =>
      rw [sign_no pl hx] at e
      cases e
    | true =>
      rw [sign_yes pl hx] at e
      cases e
      obtain ⟨i, rfl, a, b⟩ := isWhole_ok hx
      exact ⟨cs, g, i, rfl, pl, rfl, a, by omega, rfl⟩
theorem sign_err {k k' : List Int → Int → Int → PyData} {d x : PyData} {er : Err} (e : signF k [d, x] = .error er) : signF k' [d, x] = .error er := by
  cases h : isPlan d with
  | false =>
    rw [sign_noplan h] at e ⊢
    exact e
  | true =>
    obtain ⟨cs, g, rfl, pl⟩ := isPlan_ok h
    cases hx : isWhole x 0 ((cs.length : Int) - 1) with
    | false =>
      rw [sign_no pl hx] at e ⊢
      exact e
    | true =>
      rw [sign_yes pl hx] at e
      cases e
abbrev sp_need_sign (K : PySem.W.Frag) : Sp := PSpX K 2 (signF fun _ _ _ => .none)
theorem ok_need_sign (F : FnP K "_need_sign" s__need_sign f fd) (c_need_plan : Cal P w K mg base (L2N.CX P w) 3 "need_plan" ["plan"] (sp_need_plan K)) (c_is_whole : Cal P w K mg base CX0 1 "is_whole" ["value", "least", "most"] (sp_is_whole K))
    (c__last_sign : Cal P w K mg base CX0 1 "_last_sign" ["plan"] (sp_last_sign K)) (x_BadSign : Exn K mg .sign) : FnOk P w K mg base (L2N.CX P w) 4 f fd ["plan", "sign"] (sp_need_sign K) := by
  refine F.ok sc__need_sign (fun vs H Q E h => len1 h) (fun cdv A outer s H vs Q E hr h => ?_)
  obtain ⟨ds, hds, hl, kQ, kE⟩ := h
  obtain ⟨d, x, rfl⟩ : ∃ d x, ds = [d, x] := match ds, hl with | [d, x], _ => ⟨d, x, rfl⟩
  cases hds with
  | cons hd hn =>
  cases hn with
  | cons hx hn =>
  cases hn
  rename_i v u
  refine ⟨_, (pss_cons (ps_expr (pe_fX c_need_plan (hr.mono (by decide)) (L2N.takes_of rfl rfl rfl rfl) (pa_cons (pv 0) pa_nil)))
      (pss_one (ps_if (pt_not (pt_val (pe_f c_is_whole (hr.mono (by decide)) (pa_cons (pv 1) (pa_cons pe_int (pa_cons (pe_f c__last_sign (hr.mono (by decide)) (pa_cons (pv 0) pa_nil)) pa_nil)))))) (pss_one (L2N.ps_raise rfl (L2N.takes_of rfl rfl rfl rfl) (L2N.pmk_own PySem.F.excBase_ValueError x_BadSign.x x_BadSign.g x_BadSign.k (raises_own x_BadSign.b x_BadSign.t) rfl))) pss_nil))), ?_⟩
  walk_at "rd"
  refine ⟨[d], .cons hd .nil, rfl, fun dn e v' H1 s1 _ => ?_, fun e he H1 s1 => ?_⟩
  · obtain ⟨cs, g, rfl, pl⟩ := isPlan_ok (needPlan_yes e)
    refine ⟨v, cs, g, rfl, dp_same s1 _ _ hd, u, x, 0, _, rfl, dp_same s1 _ _ hx, _, rfl, ?_⟩
    cases ew : isWhole x 0 ((cs.length : Int) - 1) with
    | false => exact iteT (kE .sign (sign_no pl ew) H1 s1)
    | true => exact iteF (kQ _ (sign_yes pl ew) .non H1 s1 .non)
  · obtain ⟨rfl, hp⟩ := needPlan_no he
    exact kE .plan (sign_noplan hp) H1 s1
abbrev s_share : Stmt := topS 16
theorem sc_share : FnScope ["plan", "sign", "counts"] ["plan", "sign"] (defScope s_share) := ⟨rfl, rfl, rfl, by decide +kernel, rfl, by decide +kernel, by decide +kernel⟩

def shareD (cs : List Int) (_ s : Int) : PyData := .tuple [.int (belowOf cs s), .int (nth cs s), .int cs.sum]
abbrev sp_share (K : PySem.W.Frag) : Sp := PSpX K 2 (signF shareD)
theorem ok_share (F : FnP K "share" s_share f fd) (c__need_sign : Cal P w K mg base (L2N.CX P w) 4 "_need_sign" ["plan", "sign"] (sp_need_sign K)) (z_sum : mg "sum" = none) : FnOk P w K mg base (L2N.CX P w) 5 f fd ["plan", "sign"] (sp_share K) := by
  refine F.ok sc_share (fun vs H Q E h => len1 h) (fun cdv A outer s H vs Q E hr h => ?_)
  obtain ⟨ds, hds, hl, kQ, kE⟩ := h
  obtain ⟨d, x, rfl⟩ : ∃ d x, ds = [d, x] := match ds, hl with | [d, x], _ => ⟨d, x, rfl⟩
  cases hds with
  | cons hd hn =>
  cases hn with
  | cons hx hn =>
  cases hn
  rename_i v u
  refine ⟨_, (pss_cons (ps_expr (pe_fX c__need_sign (hr.mono (by decide)) (L2N.takes_of rfl rfl rfl rfl) (pa_cons (pv 0) (pa_cons (pv 1) pa_nil))))
      (pss_cons (ps_set (i := 2) sc_share.nd rfl (Or.inl rfl) (pe_ix (ix_tupK (K := K) rfl) (pv 0) pe_int (fun _ _ => rfl)))
      (pss_one (ps_ret (pe_tup (pa_cons (pe_callB (sumTK (K := K) rfl rfl) (by rfl) z_sum (by decide +kernel) (pa_cons (pe_slice (sl_tupK (K := K) rfl) (pv 2) po_none (po_some (pv 1))) pa_nil)) (pa_cons (pe_ix (ix_tupK (K := K) rfl) (pv 2) (pv 1) (fun _ _ => rfl)) (pa_cons (pe_callB (sumTK (K := K) rfl rfl) (by rfl) z_sum (by decide +kernel) (pa_cons (pv 2) pa_nil)) pa_nil)))))))), ?_⟩
  walk_at "rd"
  refine ⟨[d, x], .cons hd (.cons hx .nil), rfl, fun dn e v' H1 s1 _ => ?_, fun e he H1 s1 => kE e (sign_err he) H1 s1⟩
  obtain ⟨cs, g, s, rfl, pl, rfl, h0, h1, rfl⟩ := sign_plan e
  cases dp_int hx
  obtain ⟨a, c, rfl, ha, hc⟩ := plan_at (dp_same s1 _ _ hd)
  refine ⟨a, _, 0, .ref c, rfl, rfl, ha, rfl, s, rfl, slT_take hc h0 (by rw [List.length_map]; omega) fun p H2 s2 h2 => ?_⟩
  rw [← List.map_take] at h2
  refine ⟨p, cs.take s.toNat, rfl, h2, c, _, s, _, rfl, rfl, same_t s2 hc, at_nth h0 h1, c, cs, rfl, same_t s2 hc, by decide, fun t ht => ?_⟩
  refine kQ _ (sign_yes pl (by rw [isWhole_int, decide_eq_true h0, decide_eq_true (by omega)]; rfl)) _ _ ((s1.trans s2).trans (same_upd ht)) ?_
  exact .tup (.inl (.inl upd_same)) (.cons (.int _) (.cons (.int _) (.cons (.int _) .nil)))
abbrev s_behind : Stmt := topS 17
theorem sc_behind : FnScope ["plan", "sign", "counts", "gain", "grown"] ["plan", "sign"] (defScope s_behind) := ⟨rfl, rfl, rfl, by decide +kernel, rfl, by decide +kernel, by decide +kernel⟩

def behindD (cs : List Int) (g s : Int) : PyData := planD (grown cs g s) g
theorem grown_eq {cs : List Int} {g s : Int} (h0 : 0 ≤ s) (h1 : s < cs.length) : grown cs g s = cs.take s.toNat ++ [min (nth cs s + g) 1000000] ++ cs.drop (s + 1).toNat := by
  have h : s.toNat < cs.length := by omega
  unfold grown
  rw [List.set_eq_take_append_cons_drop, if_pos h, List.append_assoc]
  rw [show (s + 1).toNat = s.toNat + 1 by omega]
  rfl
abbrev sp_behind (K : PySem.W.Frag) : Sp := PSpX K 2 (signF behindD)
theorem ok_behind (F : FnP K "behind" s_behind f fd) (c__need_sign : Cal P w K mg base (L2N.CX P w) 4 "_need_sign" ["plan", "sign"] (sp_need_sign K)) (z_min : mg "min" = none) {u3 : Tok} (g_GREATEST_COUNT : mg "GREATEST_COUNT" = some (.int 1000000 u3)) : FnOk P w K mg base (L2N.CX P w) 5 f fd ["plan", "sign"] (sp_behind K) := by
  refine F.ok sc_behind (fun vs H Q E h => len1 h) (fun cdv A outer s H vs Q E hr h => ?_)
  obtain ⟨ds, hds, hl, kQ, kE⟩ := h
  obtain ⟨d, x, rfl⟩ : ∃ d x, ds = [d, x] := match ds, hl with | [d, x], _ => ⟨d, x, rfl⟩
  cases hds with
  | cons hd hn =>
  cases hn with
  | cons hx hn =>
  cases hn
  rename_i v u
  refine ⟨_, (pss_cons (ps_expr (pe_fX c__need_sign (hr.mono (by decide)) (L2N.takes_of rfl rfl rfl rfl) (pa_cons (pv 0) (pa_cons (pv 1) pa_nil))))
      (pss_cons (ps_asg (pv 0) (pg_tupK (K := K) (n := 2) rfl rfl (pgs_cons (pg_name (i := 2) sc_behind.nd rfl (.inl rfl)) (pgs_cons (pg_name (i := 3) sc_behind.nd rfl (.inl rfl)) pgs_nil))))
      (pss_cons (ps_set (i := 4) sc_behind.nd rfl (Or.inl rfl) (pe_callB (call_min2 rfl) (by rfl) z_min (by decide +kernel) (pa_cons (pe_op op_add (pe_ix (ix_tupK (K := K) rfl) (pv 2) (pv 1) (fun _ _ => rfl)) (pv 3)) (pa_cons (pe_glob (v := .int 1000000) rfl g_GREATEST_COUNT ⟨_, rfl⟩) pa_nil))))
      (pss_one (ps_ret (pe_tup (pa_cons (pe_op (op_catK (K := K) rfl) (pe_op (op_catK (K := K) rfl) (pe_slice (sl_tupK (K := K) rfl) (pv 2) po_none (po_some (pv 1))) (pe_tup (pa_cons (pv 4) pa_nil))) (pe_slice (sl_tupK (K := K) rfl) (pv 2) (po_some (pe_op op_add (pv 1) pe_int)) po_none)) (pa_cons (pv 3) pa_nil)))))))), ?_⟩
  walk_at "rd"
  refine ⟨[d, x], .cons hd (.cons hx .nil), rfl, fun dn e v' H1 s1 _ => ?_, fun e he H1 s1 => kE e (sign_err he) H1 s1⟩
  obtain ⟨cs, g, s, rfl, pl, rfl, h0, h1, rfl⟩ := sign_plan e
  cases dp_int hx
  obtain ⟨a, c, rfl, ha, hc⟩ := plan_at (dp_same s1 _ _ hd)
  refine ⟨a, rfl, _, ha, rfl, .ref c, _, rfl, .int g, [], rfl, rfl, ?_⟩
  refine ⟨c, _, s, _, rfl, rfl, hc, at_nth h0 h1, _, rfl, g, rfl, s, rfl, ?_⟩
  have em : (if (1000000 : Int) < nth cs s + g then (1000000 : Int) else nth cs s + g) = min (nth cs s + g) 1000000 := by
    by_cases z : (1000000 : Int) < nth cs s + g
    · rw [if_pos z]; omega
    · rw [if_neg z]; omega
  rw [em]
  have hl0 : (cs.map V.int).length = cs.length := List.length_map ..
  have l8 := pl.eight
  refine slT_take hc h0 (by rw [hl0]; omega) fun p1 H2 s2 h2 => ?_
  refine ⟨by decide, fun p2 n2 => ?_⟩
  refine catT (same_t (same_upd n2) h2) (.inl (.inl upd_same)) (by rw [List.length_take]; show _ + 1 ≤ 100000; omega) fun p3 H3 s3 h3 => ?_
  refine ⟨_, rfl, slT_drop (same_t ((s2.trans (same_upd n2)).trans s3) hc) (by omega) (by rw [hl0]; omega) fun p4 H4 s4 h4 => ?_⟩
  refine catT (same_t s4 h3) h4 (by rw [List.length_append, List.length_take, List.length_drop]; show _ + 1 + _ ≤ 100000; omega) fun p5 H5 s5 h5 => ?_
  refine ⟨by decide, fun t ht => ?_⟩
  have sm : Same H1 H5 := (((s2.trans (same_upd n2)).trans s3).trans s4).trans s5
  have e5 : List.take s.toNat (cs.map V.int) ++ [V.int (min (nth cs s + g) 1000000)] ++ List.drop (s + 1).toNat (cs.map V.int) = (grown cs g s).map V.int := by
    rw [grown_eq h0 h1, List.map_append, List.map_append, List.map_take, List.map_drop]
    rfl
  rw [e5] at h5
  refine kQ _ (sign_yes pl (by rw [isWhole_int, decide_eq_true h0, decide_eq_true (by omega)]; rfl)) _ _ ((s1.trans sm).trans (same_upd ht)) ?_
  exact plan_dp (.inl (.inl upd_same)) (same_t (same_upd ht) h5)
abbrev s_need_signs : Stmt := topS 15
theorem sc_need_signs : FnScope ["plan", "signs"] ["plan", "signs"] (defScope s_need_signs) := ⟨rfl, rfl, rfl, by decide +kernel, rfl, by decide +kernel, by decide +kernel⟩

def needSignsF : List PyData → Except Err PyData
  | [d, x] => if isPlan d then (if isWholeList x 60 0 (((countsOf d).length : Int) - 1) then .ok .none else .error .sign) else .error .plan
  | _ => .ok .none
abbrev sp_need_signs (K : PySem.W.Frag) : Sp := PSpX K 2 needSignsF
theorem signs_noplan {d x : PyData} (h : isPlan d = false) : needSignsF [d, x] = .error .plan := if_neg (by rw [h]; exact Bool.false_ne_true)
theorem signs_no {cs : List Int} {g : Int} {x : PyData} (p : Plan cs g) (h : isWholeList x 60 0 ((cs.length : Int) - 1) = false) : needSignsF [planD cs g, x] = .error .sign := by
  show (if isPlan (planD cs g) = true then _ else _) = _
  rw [if_pos (isPlan_of p), counts_planD, if_neg (by rw [h]; exact Bool.false_ne_true)]
theorem signs_yes {cs : List Int} {g : Int} {x : PyData} (p : Plan cs g) (h : isWholeList x 60 0 ((cs.length : Int) - 1) = true) : needSignsF [planD cs g, x] = .ok .none := by
  show (if isPlan (planD cs g) = true then _ else _) = _
  rw [if_pos (isPlan_of p), counts_planD, if_pos h]
theorem ok_need_signs (F : FnP K "need_signs" s_need_signs f fd) (c_need_plan : Cal P w K mg base (L2N.CX P w) 3 "need_plan" ["plan"] (sp_need_plan K))
    (c_is_whole_list : Cal P w K mg base CX0 3 "is_whole_list" ["values", "longest", "least", "most"] (sp_is_whole_list K)) (c__last_sign : Cal P w K mg base CX0 1 "_last_sign" ["plan"] (sp_last_sign K)) (x_BadSign : Exn K mg .sign)
    {u4 : Tok} (g_LONGEST_TEXT : mg "LONGEST_TEXT" = some (.int 60 u4)) : FnOk P w K mg base (L2N.CX P w) 4 f fd ["plan", "signs"] (sp_need_signs K) := by
  refine F.ok sc_need_signs (fun vs H Q E h => len1 h) (fun cdv A outer s H vs Q E hr h => ?_)
  obtain ⟨ds, hds, hl, kQ, kE⟩ := h
  obtain ⟨d, x, rfl⟩ : ∃ d x, ds = [d, x] := match ds, hl with | [d, x], _ => ⟨d, x, rfl⟩
  cases hds with
  | cons hd hn =>
  cases hn with
  | cons hx hn =>
  cases hn
  rename_i v u
  refine ⟨_, (pss_cons (ps_expr (pe_fX c_need_plan (hr.mono (by decide)) (L2N.takes_of rfl rfl rfl rfl) (pa_cons (pv 0) pa_nil)))
      (pss_one (ps_if (pt_not (pt_val (pe_f c_is_whole_list (hr.mono (by decide)) (pa_cons (pv 1) (pa_cons (pe_glob (v := .int 60) rfl g_LONGEST_TEXT ⟨_, rfl⟩) (pa_cons pe_int (pa_cons (pe_f c__last_sign (hr.mono (by decide)) (pa_cons (pv 0) pa_nil)) pa_nil))))))) (pss_one (L2N.ps_raise rfl (L2N.takes_of rfl rfl rfl rfl) (L2N.pmk_own PySem.F.excBase_ValueError x_BadSign.x x_BadSign.g x_BadSign.k (raises_own x_BadSign.b x_BadSign.t) rfl))) pss_nil))), ?_⟩
  walk_at "rd"
  refine ⟨[d], .cons hd .nil, rfl, fun dn e v' H1 s1 _ => ?_, fun e he H1 s1 => ?_⟩
  · obtain ⟨cs, g, rfl, pl⟩ := isPlan_ok (needPlan_yes e)
    refine ⟨v, cs, g, rfl, dp_same s1 _ _ hd, u, x, 60, 0, _, rfl, by decide, dp_same s1 _ _ hx, fun H2 s2 => ⟨_, rfl, ?_⟩⟩
    cases ew : isWholeList x 60 0 ((cs.length : Int) - 1) with
    | false => exact iteT (kE .sign (signs_no pl ew) H2 (s1.trans s2))
    | true => exact iteF (kQ _ (signs_yes pl ew) .non H2 (s1.trans s2) .non)
  · obtain ⟨rfl, hp⟩ := needPlan_no he
    exact kE .plan (signs_noplan hp) H1 s1
end

section
variable {P : Program} {w : World} {K : PySem.W.Frag} {mg : Str → Option Value} {base : Heap} {f : Addr} {fd : FuncData}
abbrev s__law_cell_at : Stmt := topS 27
theorem sc__law_cell_at : FnScope ["_law_script", "_law_k"] ["_law_script", "_law_k"] (defScope s__law_cell_at) := ⟨rfl, rfl, rfl, by decide +kernel, rfl, by decide +kernel, by decide +kernel⟩

def sp_cell_at (K : PySem.W.Frag) : Sp := fun vs H Q _ => ∃ (a : Addr) (ns : List Int) (k : Nat), vs = [.ref a, .int k] ∧ SqL K H a (ns.map V.int) ∧ Q (.int (cellAt ns k)) H
theorem ok_cell_at (F : FnP K "_law_cell_at" s__law_cell_at f fd) (z_len : mg "len" = none) : FnOk P w K mg base CX0 1 f fd ["_law_script", "_law_k"] (sp_cell_at K) := by
  refine F.ok sc__law_cell_at (fun vs H Q E h => ?_) (fun cdv A outer s H vs Q E hr h => ?_)
  · obtain ⟨_, _, _, rfl, _⟩ := h
    rfl
  · obtain ⟨a, ns, k, rfl, hs, q⟩ := h
    refine ⟨_, PSs.nox (pss_cons (ps_if (pt_cmpR op_lt (pv 1) (pe_callB (lenK (K := K) rfl) (by rfl) z_len (by decide +kernel) (pa_cons (pv 0) pa_nil)) (nomark _)) (pss_one (ps_ret (pe_op op_add (pe_ix (ix_listK (K := K) rfl) (pv 0) (pv 1) (fun _ _ => rfl)) (pe_op op_mul (pe_op op_mod (pe_ix (ix_listK (K := K) rfl) (pv 0) (pv 1) (fun _ _ => rfl)) pe_int) pe_int)))) pss_nil)
      (pss_one (ps_ret pe_int))), ?_⟩
    walk_at "rd"
    refine ⟨_, .inl hs, ?_⟩
    rw [List.length_map]
    unfold cellAt at q
    refine ite2 (fun c => ?_) (fun c => ?_)
    · have hk : k < ns.length := by simpa using c
      rw [List.getElem?_eq_getElem hk] at q
      have hat : atI (ns.map V.int) (k : Int) = some (.int ns[k]) := atI_nat (by rw [List.getElem?_map, List.getElem?_eq_getElem hk]; rfl)
      refine ⟨a, _, k, _, rfl, rfl, hs, hat, a, _, k, _, rfl, rfl, hs, hat, ?_⟩
      have h1 : 0 ≤ ns[k] % 251 := Int.emod_nonneg _ (by decide)
      have h2 : ns[k] % 251 < 251 := Int.emod_lt_of_pos _ (by decide)
      exact ⟨_, rfl, by decide, cmul_l (by omega), _, rfl, q⟩
    · have hk : ¬ k < ns.length := fun z => c (by simpa using z)
      rw [List.getElem?_eq_none (by omega)] at q
      exact q
abbrev s__law_mixed : Stmt := topS 28
theorem sc__law_mixed : FnScope ["_law_cell", "_law_k"] ["_law_cell", "_law_k"] (defScope s__law_mixed) := ⟨rfl, rfl, rfl, by decide +kernel, rfl, by decide +kernel, by decide +kernel⟩

def sp_mixed : Sp := fun vs H Q _ => ∃ c k : Int, vs = [.int c, .int k] ∧ 0 ≤ k ∧ k < 5000 ∧ Q (.int (mixed c k)) H
theorem ok_mixed (F : FnP K "_law_mixed" s__law_mixed f fd) : FnOk P w K mg base CX0 1 f fd ["_law_cell", "_law_k"] sp_mixed := by
  refine F.ok sc__law_mixed (fun vs H Q E h => ?_) (fun cdv A outer s H vs Q E hr h => ?_)
  · obtain ⟨c, k, rfl, _⟩ := h
    rfl
  · obtain ⟨c, k, rfl, h0, h1, q⟩ := h
    refine ⟨_, PSs.nox (pss_one (ps_ret (pe_op op_mod (pe_op op_add (pe_op op_add (pe_op op_mul (pv 0) (pe_op op_add (pe_op op_add pe_int (pe_op op_mul (pe_op op_mul pe_int (pv 1)) (pv 1))) (pe_op op_mul pe_int (pv 1)))) (pe_op op_mul pe_int (pv 1))) pe_int) pe_int))), ?_⟩
    walk_at "rd"
    have h2 : 0 ≤ k * k := Int.mul_nonneg h0 h0
    have h3 : k * k ≤ 5000 * 5000 := Int.mul_le_mul (by omega) (by omega) h0 (by omega)
    have h4 : 7919 * k * k = 7919 * (k * k) := Int.mul_assoc _ _ _
    refine ⟨cmul_l (by omega), cmul_l (by omega), cmul_l (by omega), cmul_r (by rw [h4]; omega), cmul_l (by omega), by decide, q⟩
abbrev s__law_whole : Stmt := topS 29
theorem sc__law_whole : FnScope ["_law_found"] ["_law_found"] (defScope s__law_whole) := ⟨rfl, rfl, rfl, by decide +kernel, rfl, by decide +kernel, by decide +kernel⟩

def sp_whole (K : PySem.W.Frag) : Sp := fun vs H Q _ => ∃ (v : V) (d : PyData), vs = [v] ∧ Dp K H v d ∧ Q (.bl (isD d "int" && !isD d "bool")) H
theorem ok_whole (F : FnP K "_law_whole" s__law_whole f fd) (z_isinstance : mg "isinstance" = none) (z_int : mg "int" = none) (z_bool : mg "bool" = none) : FnOk P w K mg base CX0 1 f fd ["_law_found"] (sp_whole K) := by
  refine F.ok sc__law_whole (fun vs H Q E h => ?_) (fun cdv A outer s H vs Q E hr h => ?_)
  · obtain ⟨_, _, rfl, _⟩ := h
    rfl
  · obtain ⟨v, d, rfl, hd, q⟩ := h
    refine ⟨_, PSs.nox (pss_one (ps_ret (pe_and (pe_callB (isK (K := K) rfl) (by rfl) z_isinstance (by decide +kernel) (pa_cons (pv 0) (pa_cons (pe_bltn (v := .ty "int") (u := .type "int") (by rfl) z_int (by decide +kernel) rfl) pa_nil))) (pe_one (pe_not (pe_callB (isK (K := K) rfl) (by rfl) z_isinstance (by decide +kernel) (pa_cons (pv 0) (pa_cons (pe_bltn (v := .ty "bool") (u := .type "bool") (by rfl) z_bool (by decide +kernel) rfl) pa_nil)))))))), ?_⟩
    walk_at "rd"
    refine ⟨v, d, "int", rfl, hd, by decide, _, rfl, ?_⟩
    cases e : isD d "int" with
    | true =>
      rw [e] at q
      exact iteT ⟨v, d, "bool", rfl, hd, by decide, _, rfl, q⟩
    | false =>
      rw [e] at q
      exact iteF q
abbrev s__law_plan : Stmt := topS 30
theorem sc__law_plan : FnScope ["_law_cell", "_law_most", "_law_counts", "_law_k"] ["_law_cell"] (defScope s__law_plan) := ⟨rfl, rfl, rfl, by decide +kernel, rfl, by decide +kernel, by decide +kernel⟩

def sp_plan (K : PySem.W.Frag) : Sp := fun vs H Q _ => ∃ c : Int, vs = [.int c] ∧ ∀ v H', Same H H' → Dp K H' v (planD (planCs c) (planG c)) → Q v H'
theorem ok_plan (F : FnP K "_law_plan" s__law_plan f fd) (c__law_mixed : Cal P w K mg base CX0 1 "_law_mixed" ["_law_cell", "_law_k"] sp_mixed) (z_range : mg "range" = none) (z_len : mg "len" = none) (z_tuple : mg "tuple" = none) : FnOk P w K mg base CX0 2 f fd ["_law_cell"] (sp_plan K) := by
  refine F.ok sc__law_plan (fun vs H Q E h => ?_) (fun cdv A outer s H vs Q E hr h => ?_)
  · obtain ⟨_, rfl, _⟩ := h
    rfl
  · obtain ⟨c, rfl, q⟩ := h
    refine ⟨_, PSs.nox (pss_cons (ps_set (i := 1) sc__law_plan.nd rfl (Or.inr rfl) (pe_ix (ix_listK (K := K) rfl) (pe_lst (pa_cons pe_int (pa_cons pe_int (pa_cons pe_int (pa_cons pe_int pa_nil))))) (pe_op op_mod (pe_op op_fdiv (pv 0) pe_int) pe_int) (fun _ _ => rfl)))
      (pss_cons (ps_setLc (i := 2) (own := [("_law_k", 3)]) (g := gName 3) rfl sc__law_plan.nd rfl rfl (sw_true rfl rfl rfl (by decide +kernel)) (pi_range1 rfl z_range (pa_cons (pe_op op_add pe_int (pe_op op_mod (pv 0) pe_int)) pa_nil)) (blkOk_by (own := [("_law_k", 3)]) (N := ["_law_cell", "_law_most", "_law_counts", "_law_k"]) (sc := defScope s__law_plan) (by decide +kernel)) (fun _ _ _ _ _ => pg_name (i := 3) sc__law_plan.nd rfl (Or.inl rfl)) (fun _ _ _ _ _ => pts_nil) (fun _ _ _ _ _ => (pe_op op_add pe_int (pe_op op_mod (pe_f c__law_mixed (hr.mono (by decide)) (pa_cons (pe_op op_fdiv (pv 0) pe_int) (pa_cons (pv 3) pa_nil))) (pv 1)))))
      (pss_cons (ps_if (pt_cmpR op_eq (pe_op op_mod (pe_op op_fdiv (pv 0) pe_int) pe_int) pe_int (nomark _)) (pss_one (ps_asg (pe_op op_sub pe_int (pe_op op_mod (pe_op op_fdiv (pv 0) pe_int) pe_int)) (pg_sub (pv 2) (pe_op op_mod (pe_op op_fdiv (pv 0) pe_int) (pe_callB (lenK (K := K) rfl) (by rfl) z_len (by decide +kernel) (pa_cons (pv 2) pa_nil))) set_list))) pss_nil)
      (pss_one (ps_ret (pe_tup (pa_cons (pe_callTy (tupleK (K := K) rfl) (by rfl) z_tuple (by decide +kernel) (pa_cons (pv 2) pa_nil)) (pa_cons (pe_ix (ix_listK (K := K) rfl) (pe_lst (pa_cons pe_int (pa_cons pe_int (pa_cons pe_int (pa_cons (pe_op op_mod (pe_op op_fdiv (pv 0) pe_int) pe_int) pa_nil))))) (pe_op op_mod (pe_op op_fdiv (pv 0) pe_int) pe_int) (fun _ _ => rfl)) pa_nil)))))))), ?_⟩
    walk_at "rd"
    refine ⟨by decide, fun p np => ⟨⟨by decide, by decide⟩, by decide, p, _, _, .int (mostOf c), rfl, rfl, .inl (.inl upd_same), ?_, ?_⟩⟩
    · have h1 : 0 ≤ c / 7 % 4 := Int.emod_nonneg _ (by decide)
      refine at_of (j := (c / 7 % 4).toNat) (by omega) ?_
      unfold mostOf
      rcases mod4 (c / 7) with h | h | h | h <;> rw [h] <;> rfl
    have s1 : Same H (upd H p (.lst [V.int 3, V.int 9, V.int 1000, V.int 1000000])) := same_upd np
    have hm := mostOf_ok c
    have h7 : 0 ≤ c % 7 := Int.emod_nonneg _ (by decide)
    have h7b : c % 7 < 7 := Int.emod_lt_of_pos _ (by decide)
    have em : (((2 + c % 7).toNat : Nat) : Int) = 2 + c % 7 := by omega
    refine lc_dpR (K := K) (m := (2 + c % 7).toNat) (fun _ => true) (fun k => .int (1 + mixed (c / 112) k % mostOf c)) (fun R h => ?_) (by omega) (fun n H' R _ _ k => yes_t k) (fun n H' D R e _ hD _ sm k => ?_) (fun D acc H' hD sm e dp => ?_)
    · rw [em] at h
      walk_at "rd"
      exact ⟨by decide, h⟩
    · walk_at "rd"
      refine ⟨⟨by decide, by decide⟩, c / 112, n, rfl, by omega, by omega, _, rfl, by omega, ?_⟩
      exact k _ _ (Same.refl _) (.int _)
    · rw [filter_yes] at dp
      have ea : acc = (counts0 c).map V.int := dpa_ints_eq (by unfold counts0; rw [List.map_map]; exact dp)
      subst ea
      have sm0 : Same H H' := s1.trans sm
      have nD : H D = none := s1.free hD
      refine ⟨⟨by decide, by decide⟩, by decide, ?_⟩
      have hl : ((counts0 c).map V.int).length = (counts0 c).length := List.length_map ..
      have hln := counts0_len c
      -- what stands behind the if
      have fin : ∀ H2, H2 D = some (.lst ((planCs c).map V.int)) → Same H H2 → ∀ l, H2 l = none → CDiv c 112 ∧ (0 : Int) < 1000001 ∧ 4 ≤ sizeLine ∧ ∀ p, upd H2 l (.tup ((planCs c).map V.int)) p = none → CDiv c 28 ∧ (0 : Int) < 4 ∧
          rIxL K (V.ref p) (V.int (c / 28 % 4)) (upd (upd H2 l (.tup ((planCs c).map V.int))) p (HO.lst [V.int 0, V.int 1, V.int 7, V.int (c / 112 % 1000001)])) fun x H1 => 2 ≤ sizeLine ∧ ∀ p, H1 p = none → Q (V.ref p) (upd H1 p (.tup [V.ref l, x])) := by
        intro H2 e2 s2 l nl
        refine ⟨⟨by decide, by decide⟩, by decide, by decide, fun p2 np2 => ⟨⟨by decide, by decide⟩, by decide, p2, _, _, .int (planG c), rfl, rfl, .inl (.inl upd_same), ?_, by decide, fun t nt => ?_⟩⟩
        · have h1 : 0 ≤ c / 28 % 4 := Int.emod_nonneg _ (by decide)
          refine at_of (j := (c / 28 % 4).toNat) (by omega) ?_
          unfold planG
          rcases mod4 (c / 28) with h | h | h | h <;> rw [h] <;> rfl
        · have sA : Same (upd H2 l (.tup ((planCs c).map V.int))) _ := same_upd np2 (o := HO.lst [V.int 0, V.int 1, V.int 7, V.int (c / 112 % 1000001)])
          have sB : Same _ _ := same_upd nt (o := HO.tup [V.ref l, V.int (planG c)])
          refine q _ _ (((s2.trans (same_upd nl)).trans sA).trans sB) (plan_dp (.inl (.inl upd_same)) (.inl (.inl ?_)))
          exact sB _ _ (sA _ _ upd_same)
      refine ite2 (fun c3 => ?_) (fun c3 => ?_)
      · have c4 : c / 28 % 4 = 3 := of_decide_eq_true c3
        have hcs : planCs c = (counts0 c).set (c / 112 % ((counts0 c).length : Int)).toNat (1000000 - c / 300 % 3) := if_pos c4
        have hp0 : 0 ≤ c / 112 % ((counts0 c).length : Int) := Int.emod_nonneg _ (by omega)
        have hp1 : c / 112 % ((counts0 c).length : Int) < (counts0 c).length := Int.emod_lt_of_pos _ (by omega)
        refine ⟨⟨by decide, by decide⟩, by decide, ⟨by decide, by decide⟩, D, rfl, _, .inl (.inl (.inl e)), by omega, ?_⟩
        rw [hl]
        have hix : ixN ((counts0 c).map V.int).length (c / 112 % ((counts0 c).length : Int)) = some (c / 112 % ((counts0 c).length : Int)).toNat := by
          obtain ⟨j, hj⟩ := Int.eq_ofNat_of_zero_le hp0
          rw [hj, Int.toNat_natCast]
          exact Evl.ixN_nat (by omega)
        refine ⟨D, _, _, _, rfl, rfl, e, hix, D, rfl, _, .inl ⟨.inl (.inl upd_same), ?_⟩⟩
        rw [← List.map_set, ← hcs]
        exact fin _ upd_same (same_mut sm0 nD)
      · have c4 : ¬ c / 28 % 4 = 3 := fun z => c3 (decide_eq_true z)
        have hcs : planCs c = counts0 c := if_neg c4
        refine ⟨D, rfl, _, .inl ⟨.inl (.inl e), ?_⟩⟩
        rw [← hcs]
        rw [← hcs] at e
        exact fin _ e sm0
abbrev s__law_behind : Stmt := topS 31
theorem sc__law_behind : FnScope ["_law_plan_here", "_law_sign", "_law_counts"] ["_law_plan_here", "_law_sign"] (defScope s__law_behind) := ⟨rfl, rfl, rfl, by decide +kernel, rfl, by decide +kernel, by decide +kernel⟩

def sp_lbehind (K : PySem.W.Frag) : Sp := fun vs H Q _ => ∃ (v : V) (cs : List Int) (g s : Int), vs = [v, .int s] ∧ Dp K H v (planD cs g) ∧ Plan cs g ∧ 0 ≤ s ∧ s < cs.length ∧ ∀ v' H', Same H H' → Dp K H' v' (planD (grown cs g s) g) → Q v' H'
theorem ok_lbehind (F : FnP K "_law_behind" s__law_behind f fd) (z_list : mg "list" = none) (z_min : mg "min" = none) (z_tuple : mg "tuple" = none) : FnOk P w K mg base CX0 1 f fd ["_law_plan_here", "_law_sign"] (sp_lbehind K) := by
  refine F.ok sc__law_behind (fun vs H Q E h => ?_) (fun cdv A outer s H vs Q E hr h => ?_)
  · obtain ⟨_, _, _, _, rfl, _⟩ := h
    rfl
  · obtain ⟨v, cs, g, s, rfl, hd, pl, h0, h1, q⟩ := h
    refine ⟨_, PSs.nox (pss_cons (ps_set (i := 2) sc__law_behind.nd rfl (Or.inl rfl) (pe_callTy (listK (K := K) rfl) (by rfl) z_list (by decide +kernel) (pa_cons (pe_ix (ix_tupK (K := K) rfl) (pv 0) pe_int (fun _ _ => rfl)) pa_nil)))
      (pss_cons (ps_asg (pe_callB (call_min2 rfl) (by rfl) z_min (by decide +kernel) (pa_cons pe_int (pa_cons (pe_op op_add (pe_ix (ix_listK (K := K) rfl) (pv 2) (pv 1) (fun _ _ => rfl)) (pe_ix (ix_tupK (K := K) rfl) (pv 0) pe_int (fun _ _ => rfl))) pa_nil))) (pg_sub (pv 2) (pv 1) set_list))
      (pss_one (ps_ret (pe_tup (pa_cons (pe_callTy (tupleK (K := K) rfl) (by rfl) z_tuple (by decide +kernel) (pa_cons (pv 2) pa_nil)) (pa_cons (pe_ix (ix_tupK (K := K) rfl) (pv 0) pe_int (fun _ _ => rfl)) pa_nil))))))), ?_⟩
    walk_at "rd"
    obtain ⟨a, c, rfl, ha, hc⟩ := plan_at hd
    refine ⟨a, _, 0, .ref c, rfl, rfl, ha, rfl, c, rfl, _, .inr hc, fun l nl => ?_⟩
    have s1 : Same H _ := same_upd nl (o := HO.lst (cs.map V.int))
    have hat := at_nth (cs := cs) h0 h1
    have hix : ixN (cs.map V.int).length s = some s.toNat := by
      obtain ⟨j, hj⟩ := Int.eq_ofNat_of_zero_le h0
      rw [hj, Int.toNat_natCast]
      exact Evl.ixN_nat (by rw [List.length_map]; omega)
    refine ⟨l, _, s, _, rfl, rfl, .inl (.inl upd_same), hat, a, _, 1, .int g, rfl, rfl, same_t s1 ha, rfl, _, rfl, g, rfl, l, _, s, _, rfl, rfl, upd_same, hix, _, .inl ⟨.inl (.inl upd_same), fun l2 nl2 => ?_⟩⟩
    have em : (if nth cs s + g < 1000000 then nth cs s + g else (1000000 : Int)) = min (nth cs s + g) 1000000 := by
      by_cases z : nth cs s + g < 1000000
      · rw [if_pos z]; omega
      · rw [if_neg z]; omega
    have em2 : (cs.map V.int).set s.toNat (V.int (if nth cs s + g < 1000000 then nth cs s + g else (1000000 : Int))) = (grown cs g s).map V.int := by
      rw [em, ← List.map_set]
      rfl
    rw [em2] at nl2 ⊢
    have s2 : Same H (upd (upd H l (HO.lst (cs.map V.int))) l (HO.lst ((grown cs g s).map V.int))) := same_mut s1 nl
    have s3 : Same H _ := s2.trans (same_upd nl2 (o := HO.tup ((grown cs g s).map V.int)))
    refine ⟨a, _, 1, .int g, rfl, rfl, same_t s3 ha, rfl, by decide, fun t nt => ?_⟩
    have s4 : Same _ _ := same_upd nt (o := HO.tup [V.ref l2, V.int g])
    exact q _ _ (s3.trans s4) (plan_dp (.inl (.inl upd_same)) (.inl (.inl (s4 _ _ upd_same))))
abbrev s__law_signs : Stmt := topS 32
theorem sc__law_signs : FnScope ["_law_cell", "_law_plan_here", "_law_most", "_law_size", "_law_way", "_law_signs_here", "_law_k", "_law_sign"] ["_law_cell", "_law_plan_here", "_law_most"] (defScope s__law_signs) := ⟨rfl, rfl, rfl, by decide +kernel, rfl, by decide +kernel, by decide +kernel⟩

def sp_signs (K : PySem.W.Frag) : Sp := fun vs H Q _ => ∃ (v : V) (c : Int) (cs : List Int) (g : Int) (most : Nat), vs = [.int c, v, .int most] ∧ Dp K H v (planD cs g) ∧ 0 < cs.length ∧ most ≤ 1000 ∧ ∀ p H', H p = none → Same H H' → H' p = some (.lst ((signsOf c cs.length most).map V.int)) → Q (.ref p) H'
theorem ok_signs (F : FnP K "_law_signs" s__law_signs f fd) (c__law_mixed : Cal P w K mg base CX0 1 "_law_mixed" ["_law_cell", "_law_k"] sp_mixed) (z_range : mg "range" = none) (z_len : mg "len" = none) : FnOk P w K mg base CX0 2 f fd ["_law_cell", "_law_plan_here", "_law_most"] (sp_signs K) := by
  refine F.ok sc__law_signs (fun vs H Q E h => ?_) (fun cdv A outer s H vs Q E hr h => ?_)
  · obtain ⟨_, _, _, _, _, rfl, _⟩ := h
    rfl
  · obtain ⟨v, c, cs, g, most, rfl, hd, hn, hm, q⟩ := h
    refine ⟨_, PSs.nox (pss_cons (ps_set (i := 3) sc__law_signs.nd rfl (Or.inl rfl) (pe_op op_mod (pv 0) (pe_op op_add (pv 2) pe_int)))
      (pss_cons (ps_set (i := 4) sc__law_signs.nd rfl (Or.inl rfl) (pe_op op_mod (pe_op op_fdiv (pv 0) pe_int) pe_int))
      (pss_cons (ps_set (i := 5) sc__law_signs.nd rfl (Or.inl rfl) (pe_lst pa_nil))
      (pss_cons (ps_for PassesOwn.never rfl (pi_range1 rfl z_range (pa_cons (pv 3) pa_nil)) (pg_name (i := 6) sc__law_signs.nd rfl (.inl rfl)) (pss_cons (ps_set (i := 7) sc__law_signs.nd rfl (Or.inl rfl) (pe_op op_mod (pe_f c__law_mixed (hr.mono (by decide)) (pa_cons (pe_op op_fdiv (pv 0) pe_int) (pa_cons (pv 6) pa_nil))) (pe_callB (lenK (K := K) rfl) (by rfl) z_len (by decide +kernel) (pa_cons (pe_ix (ix_tupK (K := K) rfl) (pv 1) pe_int (fun _ _ => rfl)) pa_nil))))
      (Evl.pss_cut (ps_if (pt_cmpR op_eq (pv 4) pe_int (nomark _)) (pss_one (ps_set (i := 7) sc__law_signs.nd rfl (Or.inl rfl) (pe_op op_mod (pe_op op_fdiv (pv 0) pe_int) (pe_callB (lenK (K := K) rfl) (by rfl) z_len (by decide +kernel) (pa_cons (pe_ix (ix_tupK (K := K) rfl) (pv 1) pe_int (fun _ _ => rfl)) pa_nil))))) pss_nil)
      (Evl.pss_cut (ps_if (PW.pt (pw_and (pt_cmpR op_eq (pv 4) pe_int (nomark _)) (pw_and1 (pt_cmpR op_lt (pe_op op_mod (pv 6) pe_int) pe_int (nomark _))))) (pss_one (ps_set (i := 7) sc__law_signs.nd rfl (Or.inl rfl) pe_int)) pss_nil)
      (pss_one (ps_expr (pe_bm PySem.F.plainAttrs_list PySem.F.slot_list_append PySem.F.type_list_append mt_append (pv 5) (pa_cons (pv 7) pa_nil))))))))
      (pss_one (ps_ret (pv 5))))))), ?_⟩
    walk_at "rd"
    have hz0 : 0 ≤ c % ((most : Int) + 1) := Int.emod_nonneg _ (by omega)
    have hz1 : c % ((most : Int) + 1) < (most : Int) + 1 := Int.emod_lt_of_pos _ (by omega)
    obtain ⟨a, cc, rfl, ha, hc⟩ := plan_at hd
    refine ⟨by omega, ⟨by decide, by decide⟩, by decide, by decide, fun p np => ?_⟩
    have s0 : Same H (upd H p (.lst [])) := same_upd np
    refine ⟨_, rfl, c % ((most : Int) + 1), rfl, by omega, by omega, for_range (lo := 0) (n := (c % ((most : Int) + 1)).toNat) (fun i σ H' => ∃ y6 y7, σ = [some (.int c), some (.ref a), some (.int most), some (.int (c % ((most : Int) + 1))), some (.int (c / 61 % 4)), some (.ref p), y6, y7] ∧ Same H H' ∧ H' p = some (.lst (((List.range i).map (signAt c cs.length)).map V.int)))
      ⟨none, none, rfl, s0, upd_same⟩ ?_ ?_⟩
    · rintro i σ H' hi ⟨y6, y7, rfl, sm, e⟩
      have ta := same_t sm ha
      have tc := same_t sm hc
      walk_at "rd"
      refine ⟨⟨by decide, by decide⟩, c / 244, i, by rw [Int.zero_add], by omega, by omega, ?_⟩
      refine ⟨a, _, 0, .ref cc, rfl, rfl, ta, rfl, cc, rfl, _, .inr tc, _, rfl, ?_⟩
      rw [List.length_map]
      rw [Int.zero_add]
      have hn0 : (0 : Int) < cs.length := by omega
      refine ⟨hn0, fun σ2 H2 => H2 = H' ∧ σ2 = [some (.int c), some (.ref a), some (.int most), some (.int (c % ((most : Int) + 1))), some (.int (c / 61 % 4)), some (.ref p), some (.int i), some (.int (if c / 61 % 4 = 1 then c / 244 % (cs.length : Int) else mixed (c / 244) i % (cs.length : Int)))], ?_, ?_⟩
      · refine ite2 (fun c1 => ?_) (fun c1 => ?_)
        · refine ⟨⟨by decide, by decide⟩, a, _, 0, .ref cc, rfl, rfl, ta, rfl, cc, rfl, _, .inr tc, ?_⟩
          rw [List.length_map, if_pos (of_decide_eq_true c1)]
          exact ⟨hn0, rfl, rfl⟩
        · rw [if_neg (fun z => c1 (decide_eq_true z))]
          exact ⟨rfl, rfl⟩
      · rintro σ2 H2 ⟨rfl, rfl⟩
        walk_at "rd"
        refine ⟨fun σ3 H3 => H3 = H2 ∧ σ3 = [some (.int c), some (.ref a), some (.int most), some (.int (c % ((most : Int) + 1))), some (.int (c / 61 % 4)), some (.ref p), some (.int i), some (.int (signAt c cs.length i))], ?_, ?_⟩
        · unfold signAt
          refine ite2 (fun c2 => ?_) (fun c2 => ?_)
          · have d2 := of_decide_eq_true c2
            refine ⟨by decide, ite2 (fun c3 => ?_) (fun c3 => ?_)⟩
            · rw [if_pos ⟨d2, of_decide_eq_true c3⟩]
              exact ⟨rfl, rfl⟩
            · rw [if_neg (fun z => c3 (decide_eq_true z.2))]
              exact ⟨rfl, rfl⟩
          · rw [if_neg (fun z => c2 (decide_eq_true z.1))]
            exact ⟨rfl, rfl⟩
        · rintro σ3 H3 ⟨rfl, rfl⟩
          refine ⟨_, rfl, .inl ⟨rfl, _, .inl (.inl e)⟩, _, rfl, p, _, _, rfl, rfl, e, ?_, ⟨_, _, rfl⟩, same_mut sm np, ?_⟩
          · rw [List.length_map, List.length_map, List.length_range]
            exact Nat.lt_of_lt_of_le (show i < 100001 by omega) (by decide)
          · rw [upd_same, List.range_succ, List.map_append, List.map_append]
            rfl
    · rintro σ H' ⟨y6, y7, rfl, sm, e⟩
      walk_at "rd"
      exact q p H' np sm e
end

/-! ### calls of the laws' own defs, as data -/
section
variable {K : PySem.W.Frag} {te ta tb tc : TE} {σ : L2.St} {H : Hp} {d x : PyData} {ns cs : List Int} {g c s : Int}
theorem dpa1 {v : V} {vs : List V} (h : DpAll K H vs [d]) : ∃ v, vs = [v] ∧ Dp K H v d := by
  cases h with
  | cons h1 h2 => cases h2; exact ⟨_, rfl, h1⟩
theorem ev_cell {k : Nat} (h : EvD K ta σ H (.list (ns.map PyData.int))) (hk : EvV tb σ H (.int (k : Int))) : EvV (tCall (sp_cell_at K) [] E0 (tCons ta (tCons tb tNil))) σ H (.int (cellAt ns k)) :=
  evv_call (eds_cons h (eds_cons hk.int eds_nil)) fun vs H1 Q s1 d1 q => by
    cases d1 with
    | cons a1 a2 => cases a2 with
      | cons a2 a3 =>
        cases a3
        cases dp_int a2
        cases a1 with
        | lst hs ha =>
          rw [dpa_ints_eq ha] at hs
          exact ⟨_, ns, k, rfl, hs, q H1 (Same.refl _)⟩
theorem ev_whole (h : EvD K ta σ H d) : EvV (tCall (sp_whole K) [] E0 (tCons ta tNil)) σ H (.bl (isD d "int" && !isD d "bool")) :=
  evv_call (eds_cons h eds_nil) fun vs H1 Q s1 d1 q => by
    cases d1 with
    | cons a1 a2 =>
      cases a2
      exact ⟨_, d, rfl, a1, q H1 (Same.refl _)⟩
theorem evd_plan (h : EvV ta σ H (.int c)) : EvD K (tCall (sp_plan K) [] E0 (tCons ta tNil)) σ H (planD (planCs c) (planG c)) :=
  evd_call (eds_cons h.int eds_nil) fun vs H1 Q s1 d1 q => by
    cases d1 with
    | cons a1 a2 =>
      cases a2
      cases dp_int a1
      exact ⟨c, rfl, q⟩
theorem evd_lbehind (h : EvD K ta σ H (planD cs g)) (hs : EvV tb σ H (.int s)) (pl : Plan cs g) (h0 : 0 ≤ s) (h1 : s < cs.length) : EvD K (tCall (sp_lbehind K) [] E0 (tCons ta (tCons tb tNil))) σ H (planD (grown cs g s) g) :=
  evd_call (eds_cons h (eds_cons hs.int eds_nil)) fun vs H1 Q s1 d1 q => by
    cases d1 with
    | cons a1 a2 => cases a2 with
      | cons a2 a3 =>
        cases a3
        cases dp_int a2
        exact ⟨_, cs, g, s, rfl, a1, pl, h0, h1, q⟩
theorem evo_signs {most : Nat} (hc : EvV ta σ H (.int c)) (h : EvD K tb σ H (planD cs g)) (hm : EvV tc σ H (.int (most : Int))) (hn : 0 < cs.length) (hl : most ≤ 1000) : EvO K (tCall (sp_signs K) [] E0 (tCons ta (tCons tb (tCons tc tNil)))) σ H ((signsOf c cs.length most).map PyData.int) :=
  evo_call (eds_cons hc.int (eds_cons h (eds_cons hm.int eds_nil))) fun vs H1 Q s1 d1 q => by
    cases d1 with
    | cons a1 a2 => cases a2 with
      | cons a2 a3 => cases a3 with
        | cons a3 a4 =>
          cases a4
          cases dp_int a1
          cases dp_int a3
          exact ⟨_, c, cs, g, most, rfl, a2, hn, hl, fun p H2 np s2 e2 => q p _ H2 np s2 e2 (dpa_ints _)⟩
end

section
variable {P : Program} {w : World} {K : PySem.W.Frag} {mg : Str → Option Value} {base : Heap} {f : Addr} {fd : FuncData}
abbrev s_parted : Stmt := topS 22
theorem sc_parted : FnScope ["stretch", "one", "low", "wide", "parts", "below", "count", "total"] ["stretch", "one"] (defScope s_parted) := ⟨rfl, rfl, rfl, by decide +kernel, rfl, by decide +kernel, by decide +kernel⟩

def sp_parted (K : PySem.W.Frag) : Sp := fun vs H Q _ => ∃ (v u : V) (s : S3) (n : Nat) (b c q : Int), vs = [v, u] ∧ Dp K H v s.d ∧ Dp K H u (.tuple [.int b, .int c, .int q]) ∧ s.Ok n ∧ n ≤ 100000 ∧ Share b c q ∧ ∀ v' H', Same H H' → Dp K H' v' (s.by b c q).d → Q v' H'
theorem wmul {i j : Int} {n m : Nat} (hi : i.natAbs < 2 ^ n) (hj : j.natAbs < 2 ^ m) (h : n + m ≤ 900000) : CMulW i j :=
  wide_mul (a := n + 1) (b := m + 1) (Nat.lt_of_lt_of_le hi (Nat.pow_le_pow_right (by decide) (by omega))) (Nat.lt_of_lt_of_le hj (Nat.pow_le_pow_right (by decide) (by omega))) (by omega) (by omega) (by omega)
theorem Share.abs {b c q : Int} (h : Share b c q) : b.natAbs < 2 ^ 23 ∧ c.natAbs < 2 ^ 23 ∧ q.natAbs < 2 ^ 23 := by
  have := h.b0; have := h.c1; have := h.bc; have := h.q8
  refine ⟨?_, ?_, ?_⟩ <;> (show _ < 8388608; omega)
theorem ok_parted (F : FnP K "parted" s_parted f fd) : FnOk P w K mg base CX0 1 f fd ["stretch", "one"] (sp_parted K) := by
  refine F.ok sc_parted (fun vs H Q E h => ?_) (fun cdv A outer s H vs Q E hr h => ?_)
  · obtain ⟨_, _, _, _, _, _, _, rfl, _⟩ := h
    rfl
  · obtain ⟨v, u, s, n, b, c, q, rfl, hv, hu, ok, hn, sh, k⟩ := h
    refine ⟨_, PSs.nox (pss_hold (ps_asg (pv 0) (pg_tupK (K := K) (n := 3) rfl rfl (pgs_cons (pg_name (i := 2) sc_parted.nd rfl (.inl rfl)) (pgs_cons (pg_name (i := 3) sc_parted.nd rfl (.inl rfl)) (pgs_cons (pg_name (i := 4) sc_parted.nd rfl (.inl rfl)) pgs_nil)))))
      (pss_hold (ps_asg (pv 1) (pg_tupK (K := K) (n := 3) rfl rfl (pgs_cons (pg_name (i := 5) sc_parted.nd rfl (.inl rfl)) (pgs_cons (pg_name (i := 6) sc_parted.nd rfl (.inl rfl)) (pgs_cons (pg_name (i := 7) sc_parted.nd rfl (.inl rfl)) pgs_nil)))))
      (pss_one (ps_ret (pe_tup (pa_cons (pe_op op_add (pe_op op_mulW (pv 2) (pv 7)) (pe_op op_mulW (pv 3) (pv 5))) (pa_cons (pe_op op_mulW (pv 3) (pv 6)) (pa_cons (pe_op op_mulW (pv 4) (pv 7)) pa_nil)))))))), ?_⟩
    have sa := sh.abs
    refine unpS (evd_var rfl hv) fun H1 s1 => hold (unpS (s := ⟨b, c, q⟩) (evd_var rfl (dp_same s1 _ _ hu)) fun H2 s2 => hold (retD (d := (s.by b c q).d) (evd_tup (eds_cons (EvV.int (ev_op0 (ev_op (ev_var rfl) (ev_var rfl) (wmul ok.labs sa.2.2 (by omega))) (ev_op (ev_var rfl) (ev_var rfl) (wmul ok.wabs sa.1 (by omega)))))
      (eds_cons (EvV.int (ev_op (ev_var rfl) (ev_var rfl) (wmul ok.wabs sa.2.1 (by omega)))) (eds_cons (EvV.int (ev_op (ev_var rfl) (ev_var rfl) (wmul ok.tabs sa.2.2 (by omega)))) eds_nil))) (by show 3 ≤ 100000; omega)) fun v' H3 s3 d3 => k v' H3 ((s1.trans s2).trans s3) d3))
abbrev s_within : Stmt := topS 23
theorem sc_within : FnScope ["one", "other", "low", "wide", "parts", "other_low", "other_wide", "other_parts"] ["one", "other"] (defScope s_within) := ⟨rfl, rfl, rfl, by decide +kernel, rfl, by decide +kernel, by decide +kernel⟩

def sp_within (K : PySem.W.Frag) : Sp := fun vs H Q _ => ∃ (v u : V) (s t : S3) (n m : Nat), vs = [v, u] ∧ Dp K H v s.d ∧ Dp K H u t.d ∧ s.Ok n ∧ t.Ok m ∧ n + m ≤ 800000 ∧ ∀ H', Same H H' → Q (.bl (withinB s t)) H'
theorem ok_within (F : FnP K "within" s_within f fd) : FnOk P w K mg base CX0 1 f fd ["one", "other"] (sp_within K) := by
  refine F.ok sc_within (fun vs H Q E h => ?_) (fun cdv A outer s H vs Q E hr h => ?_)
  · obtain ⟨_, _, _, _, _, _, rfl, _⟩ := h
    rfl
  · obtain ⟨v, u, s, t, n, m, rfl, hv, hu, ok, ok2, hn, k⟩ := h
    refine ⟨_, PSs.nox (pss_hold (ps_asg (pv 0) (pg_tupK (K := K) (n := 3) rfl rfl (pgs_cons (pg_name (i := 2) sc_within.nd rfl (.inl rfl)) (pgs_cons (pg_name (i := 3) sc_within.nd rfl (.inl rfl)) (pgs_cons (pg_name (i := 4) sc_within.nd rfl (.inl rfl)) pgs_nil)))))
      (pss_hold (ps_asg (pv 1) (pg_tupK (K := K) (n := 3) rfl rfl (pgs_cons (pg_name (i := 5) sc_within.nd rfl (.inl rfl)) (pgs_cons (pg_name (i := 6) sc_within.nd rfl (.inl rfl)) (pgs_cons (pg_name (i := 7) sc_within.nd rfl (.inl rfl)) pgs_nil)))))
      (pss_hold (ps_if (pt_cmpR op_lt (pe_op op_mulW (pv 2) (pv 7)) (pe_op op_mulW (pv 5) (pv 4)) (nomark _)) (pss_one (ps_ret pe_bl)) pss_nil)
      (pss_one (ps_ret (pe_cmpR op_le (pe_op op_mulW (pe_op op_add (pv 2) (pv 3)) (pv 7)) (pe_op op_mulW (pe_op op_add (pv 5) (pv 6)) (pv 4)) (nomark _))))))), ?_⟩
    refine unpS (evd_var rfl hv) fun H1 s1 => hold (unpS (evd_var rfl (dp_same s1 _ _ hu)) fun H2 s2 => hold ?_)
    have t2 := s1.trans s2
    walk_at "rd"
    refine ⟨wmul ok.labs ok2.tabs (by omega), wmul ok2.labs ok.tabs (by omega), ?_⟩
    refine ite2 (fun c => ?_) (fun c => ?_)
    · have e : decide (s.l * t.t < t.l * s.t) = true := c
      have k2 := k H2 t2
      unfold withinB at k2
      rw [e] at k2
      exact k2
    · have e : decide (s.l * t.t < t.l * s.t) = false := by
        rw [Bool.eq_false_iff]
        exact c
      have k2 := k H2 t2
      unfold withinB at k2
      rw [e] at k2
      walk_at "nx"
      exact ⟨wmul ok.lwabs ok2.tabs (by omega), wmul ok2.lwabs ok.tabs (by omega), k2⟩
theorem evd_parted {K : PySem.W.Frag} {ta tb : TE} {σ : L2.St} {H : Hp} {s : S3} {n : Nat} {b c q : Int} (h : EvD K ta σ H s.d) (h2 : EvD K tb σ H (.tuple [.int b, .int c, .int q])) (ok : s.Ok n) (hn : n ≤ 100000) (sh : Share b c q) : EvD K (tCall (sp_parted K) [] E0 (tCons ta (tCons tb tNil))) σ H (s.by b c q).d :=
  evd_call (eds_cons h (eds_cons h2 eds_nil)) fun vs H1 Q s1 d1 k => by
    cases d1 with
    | cons a1 a2 => cases a2 with
      | cons a2 a3 =>
        cases a3
        exact ⟨_, _, s, n, b, c, q, rfl, a1, a2, ok, hn, sh, k⟩
theorem ev_within {K : PySem.W.Frag} {ta tb : TE} {σ : L2.St} {H : Hp} {s t : S3} {n m : Nat} (h : EvD K ta σ H s.d) (h2 : EvD K tb σ H t.d) (ok : s.Ok n) (ok2 : t.Ok m) (hn : n + m ≤ 800000) : EvV (tCall (sp_within K) [] E0 (tCons ta (tCons tb tNil))) σ H (.bl (withinB s t)) :=
  evv_call (eds_cons h (eds_cons h2 eds_nil)) fun vs H1 Q s1 d1 k => by
    cases d1 with
    | cons a1 a2 => cases a2 with
      | cons a2 a3 =>
        cases a3
        exact ⟨_, _, s, t, n, m, rfl, a1, a2, ok, ok2, hn, k⟩
theorem signs_ok {d x r : PyData} (h : needSignsF [d, x] = .ok r) : ∃ cs g ss, d = planD cs g ∧ Plan cs g ∧ x = .list (ss.map PyData.int) ∧ Text cs.length ss := by
  cases hp : isPlan d with
  | false =>
    rw [signs_noplan hp] at h
    cases h
  | true =>
    obtain ⟨cs, g, rfl, pl⟩ := isPlan_ok hp
    cases hx : isWholeList x 60 0 ((cs.length : Int) - 1) with
    | false =>
      rw [signs_no pl hx] at h
      cases h
    | true =>
      obtain ⟨ss, rfl, tx⟩ := isText_ok hx
      exact ⟨cs, g, ss, rfl, pl, rfl, tx⟩
abbrev s_stepped : Stmt := topS 25
theorem sc_stepped : FnScope ["stretch", "plan", "sign"] ["stretch", "plan", "sign"] (defScope s_stepped) := ⟨rfl, rfl, rfl, by decide +kernel, rfl, by decide +kernel, by decide +kernel⟩

def sp_stepped (K : PySem.W.Frag) : Sp := fun vs H Q _ => ∃ (v u : V) (s : S3) (n : Nat) (cs : List Int) (g x : Int), vs = [v, u, .int x] ∧ Dp K H v s.d ∧ Dp K H u (planD cs g) ∧ s.Ok n ∧ n ≤ 100000 ∧ Plan cs g ∧ 0 ≤ x ∧ x < cs.length ∧ ∀ v' H', Same H H' → Dp K H' v' (.tuple [(s.by (belowOf cs x) (nth cs x) cs.sum).d, planD (grown cs g x) g]) → Q v' H'
theorem ok_stepped (F : FnP K "stepped" s_stepped f fd) (c_parted : Cal P w K mg base CX0 1 "parted" ["stretch", "one"] (sp_parted K)) (c_share : Cal P w K mg base (L2N.CX P w) 5 "share" ["plan", "sign"] (sp_share K)) (c_behind : Cal P w K mg base (L2N.CX P w) 5 "behind" ["plan", "sign"] (sp_behind K)) :
    FnOk P w K mg base CX0 6 f fd ["stretch", "plan", "sign"] (sp_stepped K) := by
  refine F.ok sc_stepped (fun vs H Q E h => ?_) (fun cdv A outer s H vs Q E hr h => ?_)
  · obtain ⟨_, _, _, _, _, _, _, rfl, _⟩ := h
    rfl
  · obtain ⟨v, u, s, n, cs, g, x, rfl, hv, hu, ok, hn, pl, h0, h1, k⟩ := h
    have hok : isWhole (.int x) 0 ((cs.length : Int) - 1) = true := by
      rw [isWhole_int, decide_eq_true h0, decide_eq_true (by omega)]
      rfl
    refine ⟨_, PSs.nox (pss_one (ps_ret (pe_tup (pa_cons (pe_f c_parted (hr.mono (by decide)) (pa_cons (pv 0) (pa_cons (pe_fN c_share (hr.mono (by decide)) (pa_cons (pv 1) (pa_cons (pv 2) pa_nil))) pa_nil))) (pa_cons (pe_fN c_behind (hr.mono (by decide)) (pa_cons (pv 1) (pa_cons (pv 2) pa_nil))) pa_nil))))), ?_⟩
    exact retD (evd_tup (eds_cons (evd_parted (evd_var rfl hv) (evd_X (d := shareD cs g x) (eds_cons (evd_var rfl hu) (eds_cons (evd_var rfl (.int x)) eds_nil)) rfl (sign_yes pl hok)) ok hn (plan_share pl h0 h1))
      (eds_cons (evd_X (d := behindD cs g x) (eds_cons (evd_var rfl hu) (eds_cons (evd_var rfl (.int x)) eds_nil)) rfl (sign_yes pl hok)) eds_nil)) (by show 2 ≤ 100000; omega)) fun v' H' s' d' => k v' H' s' d'
theorem evd_stepped {K : PySem.W.Frag} {ta tb tc : TE} {σ : L2.St} {H : Hp} {s : S3} {n : Nat} {cs : List Int} {g x : Int} (h : EvD K ta σ H s.d) (h2 : EvD K tb σ H (planD cs g)) (h3 : EvV tc σ H (.int x)) (ok : s.Ok n) (hn : n ≤ 100000) (pl : Plan cs g) (h0 : 0 ≤ x) (h1 : x < cs.length) :
    EvD K (tCall (sp_stepped K) [] E0 (tCons ta (tCons tb (tCons tc tNil)))) σ H (.tuple [(s.by (belowOf cs x) (nth cs x) cs.sum).d, planD (grown cs g x) g]) :=
  evd_call (eds_cons h (eds_cons h2 (eds_cons h3.int eds_nil))) fun vs H1 Q s1 d1 k => by
    obtain ⟨v, u, y, rfl, a1, a2, a3⟩ := dpaN3 d1
    cases dp_int a3
    exact ⟨_, _, s, n, cs, g, x, rfl, a1, a2, ok, hn, pl, h0, h1, k⟩
theorem unp2Lx {K : PySem.W.Frag} {te : TE} {σ : L2.St} {H : Hp} {D : Ends} {i j : Nat} {d1 d2 : PyData} (h : EvD K te σ H (.tuple [d1, d2])) (q : ∀ v1 v2 H1, Same H H1 → Dp K H1 v1 d1 → Dp K H1 v2 d2 → D.nx ((σ.set i (some v1)).set j (some v2)) H1) : tAsg te (gTup K 2 (gCons (gName i) (gCons (gName j) gNil))) D σ H :=
  h H _ (Same.refl H) fun v H1 s1 dv => by
    cases dv with
    | tup hs ha =>
      obtain ⟨v1, v2, rfl, a1, a2⟩ := dpaN2 ha
      exact ⟨_, _, rfl, hs, rfl, _, _, rfl, _, _, rfl, rfl, q _ _ H1 s1 a1 a2⟩
abbrev s_stretch_of : Stmt := topS 24
theorem sc_stretch_of : FnScope ["plan", "signs", "stretch", "sign"] ["plan", "signs"] (defScope s_stretch_of) := ⟨rfl, rfl, rfl, by decide +kernel, rfl, by decide +kernel, by decide +kernel⟩

def stretchF : List PyData → Except Err PyData
  | [d, x] => if isPlan d then (if isWholeList x 60 0 (((countsOf d).length : Int) - 1) then .ok (textS (countsOf d) (gainOf d) (itemsOf x)).d else .error .sign) else .error .plan
  | _ => .ok .none
abbrev sp_stretch_of (K : PySem.W.Frag) : Sp := PSpX K 2 stretchF
theorem stretch_noplan {d x : PyData} (h : isPlan d = false) : stretchF [d, x] = .error .plan := if_neg (by rw [h]; exact Bool.false_ne_true)
theorem stretch_no {cs : List Int} {g : Int} {x : PyData} (p : Plan cs g) (h : isWholeList x 60 0 ((cs.length : Int) - 1) = false) : stretchF [planD cs g, x] = .error .sign := by
  show (if isPlan (planD cs g) = true then _ else _) = _
  rw [if_pos (isPlan_of p), counts_planD, if_neg (by rw [h]; exact Bool.false_ne_true)]
theorem stretch_yes {cs : List Int} {g : Int} {ss : List Int} (p : Plan cs g) (h : Text cs.length ss) : stretchF [planD cs g, .list (ss.map PyData.int)] = .ok (textS cs g ss).d := by
  show (if isPlan (planD cs g) = true then _ else _) = _
  rw [if_pos (isPlan_of p), counts_planD, if_pos (isText_of h), gain_planD]
  show Except.ok (textS cs g ((ss.map PyData.int).map toI)).d = _
  rw [toI_map]
theorem signs_err {d x : PyData} {e : Err} (h : needSignsF [d, x] = .error e) : stretchF [d, x] = .error e := by
  cases hp : isPlan d with
  | false =>
    rw [signs_noplan hp] at h
    rw [stretch_noplan hp]
    exact h
  | true =>
    obtain ⟨cs, g, rfl, pl⟩ := isPlan_ok hp
    cases hx : isWholeList x 60 0 ((cs.length : Int) - 1) with
    | false =>
      rw [signs_no pl hx] at h
      rw [stretch_no pl hx]
      exact h
    | true =>
      rw [signs_yes pl hx] at h
      cases h
theorem ok_stretch_of (F : FnP K "stretch_of" s_stretch_of f fd) (c_need_signs : Cal P w K mg base (L2N.CX P w) 4 "need_signs" ["plan", "signs"] (sp_need_signs K)) (c_stepped : Cal P w K mg base CX0 6 "stepped" ["stretch", "plan", "sign"] (sp_stepped K)) (g_WHOLE : mg "WHOLE" = some (.ref (He.ga K "WHOLE"))) (t_WHOLE : ∀ H, SqT K H (He.ga K "WHOLE") [.int 0, .int 1, .int 1]) :
    FnOk P w K mg base (L2N.CX P w) 7 f fd ["plan", "signs"] (sp_stretch_of K) := by
  refine F.ok sc_stretch_of (fun vs H Q E h => len1 h) (fun cdv A outer s H vs Q E hr h => ?_)
  obtain ⟨ds, hds, hl, kQ, kE⟩ := h
  obtain ⟨d, x, rfl⟩ : ∃ d x, ds = [d, x] := match ds, hl with | [d, x], _ => ⟨d, x, rfl⟩
  cases hds with
  | cons hd hn =>
  cases hn with
  | cons hx hn =>
  cases hn
  rename_i v u
  refine ⟨_, (pss_hold (ps_expr (pe_fX c_need_signs (hr.mono (by decide)) (L2N.takes_of rfl rfl rfl rfl) (pa_cons (pv 0) (pa_cons (pv 1) pa_nil))))
      (pss_hold (ps_set (i := 2) sc_stretch_of.nd rfl (Or.inl rfl) (pe_glob (v := .ref _) rfl g_WHOLE rfl))
      (pss_hold (ps_for (passes_of rfl) rfl (pi_listK (K := K) rfl (pv 1)) (pg_name (i := 3) sc_stretch_of.nd rfl (.inl rfl)) (pss_one (ps_asg (pe_f c_stepped (hr.mono (by decide)) (pa_cons (pv 2) (pa_cons (pv 0) (pa_cons (pv 3) pa_nil)))) (pg_tupK (K := K) (n := 2) rfl rfl (pgs_cons (pg_name (i := 2) sc_stretch_of.nd rfl (.inl rfl)) (pgs_cons (pg_name (i := 0) sc_stretch_of.nd rfl (.inl rfl)) pgs_nil))))))
      (pss_one (ps_ret (pv 2)))))), ?_⟩
  refine dropX (eds_cons (evd_var rfl hd) (eds_cons (evd_var rfl hx) eds_nil)) rfl (fun r H1 hr s1 => ?_) (fun e H1 he s1 => ?_)
  · obtain ⟨cs, g, ss, rfl, pl, rfl, tx⟩ := signs_ok hr
    obtain ⟨a, xs, rfl, hs, hxs⟩ : ∃ a xs, u = .ref a ∧ SqL K H1 a xs ∧ xs = ss.map V.int := by
      cases dp_same s1 _ _ hx with
      | lst hs ha => exact ⟨_, _, rfl, hs, dpa_ints_eq ha⟩
    subst hxs
    have dv1 := dp_same s1 _ _ hd
    have hss : ∀ s ∈ ss, 0 ≤ s ∧ s < cs.length := fun s hs => by have := tx.2 s hs; omega
    refine hold (asgV ev_c fun H2 s2 => ?_)
    refine hold (forL (xs := ss.map V.int) (ev_var rfl) (s2.seq hs) (fun i σ' H' => ∃ v2 v3 y, σ' = [some v2, some (.ref a), some v3, y] ∧ Same H2 H' ∧ Dp K H' v2 (planD (after cs g (ss.take i)) g) ∧ Dp K H' v3 (textS cs g (ss.take i)).d)
      (fun H3 s3 => ⟨_, _, _, rfl, s3, dp_same (s2.trans s3) _ _ dv1, .tup (t_WHOLE H3) (.cons (.int 0) (.cons (.int 1) (.cons (.int 1) .nil)))⟩) (fun i σ' H' ⟨_, _, _, _, sm, _⟩ => (s2.trans sm).seq hs) ?_ ?_)
    · rintro i x σ' H' hi ⟨v2, v3, y, rfl, sm, h2, h3⟩
      obtain ⟨s, es, rfl⟩ : ∃ s, ss[i]? = some s ∧ x = V.int s := by
        rw [List.getElem?_map] at hi
        cases e : ss[i]? with
        | none => rw [e] at hi; cases hi
        | some s => rw [e] at hi; exact ⟨s, rfl, (Option.some.inj hi).symm⟩
      obtain ⟨pa, la⟩ := after_ok pl (ss := ss.take i) fun t ht => hss t (List.mem_of_mem_take ht)
      have hsm := hss s (List.mem_of_getElem? es)
      have eA := after_snoc cs g (ss.take i) s
      have eS := strOf_snoc g s (ss.take i) whole3 cs
      rw [← take_snoc es] at eA eS
      have ok1 : (textS cs g (ss.take i)).Ok 1400 := textS_ok pl ⟨by rw [List.length_take]; have := tx.1; omega, fun t ht => tx.2 t (List.mem_of_mem_take ht)⟩
      change textS cs g (ss.take (i + 1)) = (textS cs g (ss.take i)).by _ _ _ at eS
      generalize after cs g (ss.take i) = ca at h2 pa la eA eS
      generalize textS cs g (ss.take i) = st at h3 ok1 eS
      have h0 : 0 ≤ s := hsm.1
      have h1 : s < ca.length := by rw [la]; exact hsm.2
      refine unp2Lx (evd_stepped (evd_var rfl h3) (evd_var rfl h2) (ev_var rfl) ok1 (by omega) pa h0 h1) fun v4 v5 G1 r1 d4 d5 => ?_
      refine ⟨v5, v4, _, rfl, sm.trans r1, ?_, ?_⟩
      · rw [eA]
        exact d5
      · rw [eS]
        exact d4
    · rintro σ' H' ⟨v2, v3, y, rfl, sm, h2, h3⟩
      rw [List.length_map, List.take_length] at h3
      exact hold (retD (evd_var rfl h3) fun v4 H4 s4 d4 => kQ _ (stretch_yes pl tx) v4 H4 (((s1.trans s2).trans sm).trans s4) d4)
  · exact kE e (signs_err he) H1 s1
end

section
variable {P : Program} {w : World} {K : PySem.W.Frag} {mg : Str → Option Value} {base : Heap} {f : Addr} {fd : FuncData}
abbrev s__law_texts : Stmt := topS 35
theorem sc__law_texts : FnScope ["_law_kinds", "_law_many", "_law_texts_here", "_law_k", "_law_more", "_law_text", "_law_sign"] ["_law_kinds", "_law_many"] (defScope s__law_texts) := ⟨rfl, rfl, rfl, by decide +kernel, rfl, by decide +kernel, by decide +kernel⟩

def textsD (n m : Nat) : List PyData := (textsB n m).map fun t => .list (t.map .int)
def moreD (n : Nat) (l : List (List Int)) : List PyData := (l.flatMap fun t => (List.range n).map fun (x : Nat) => t ++ [(x : Int)]).map fun t => .list (t.map .int)
theorem moreD_len (n : Nat) (l : List (List Int)) : (moreD n l).length = l.length * n := by
  unfold moreD
  rw [List.length_map, List.length_flatMap]
  have e : l.map (fun t => ((List.range n).map fun (x : Nat) => t ++ [(x : Int)]).length) = l.map fun _ => n := by
    refine List.map_congr_left fun t _ => ?_
    rw [List.length_map, List.length_range]
  rw [e, List.map_const', List.sum_replicate_nat]
def sp_texts (K : PySem.W.Frag) : Sp := fun vs H Q _ => ∃ (n m : Nat), vs = [.int n, .int m] ∧ n ≤ 8 ∧ m ≤ 3 ∧ ∀ v' H', Same H H' → Dp K H' v' (.list (textsD n m)) → Q v' H'
theorem ok_texts (F : FnP K "_law_texts" s__law_texts f fd) (z_range : mg "range" = none) : FnOk P w K mg base CX0 1 f fd ["_law_kinds", "_law_many"] (sp_texts K) := by
  refine F.ok sc__law_texts (fun vs H Q E h => ?_) (fun cdv A outer s H vs Q E hr h => ?_)
  · obtain ⟨_, _, rfl, _⟩ := h
    rfl
  · obtain ⟨n, m, rfl, hn, hm, q⟩ := h
    refine ⟨_, PSs.nox (pss_hold (ps_set (i := 2) sc__law_texts.nd rfl (Or.inl rfl) (pe_lst (pa_cons (pe_lst pa_nil) pa_nil)))
      (pss_hold (ps_for PassesOwn.never rfl (pi_range1 rfl z_range (pa_cons (pv 1) pa_nil)) (pg_name (i := 3) sc__law_texts.nd rfl (.inl rfl)) (pss_hold (ps_set (i := 4) sc__law_texts.nd rfl (Or.inl rfl) (pe_lst pa_nil))
      (pss_hold (ps_for PassesOwn.never rfl (pi_listK (K := K) rfl (pv 2)) (pg_name (i := 5) sc__law_texts.nd rfl (.inr rfl)) (pss_one (ps_set (i := 4) sc__law_texts.nd rfl (Or.inl rfl) (pe_op (op_catLK (K := K) rfl) (pv 4) (pe_lc (own := [("_law_sign", 6)]) (g := gName 6) rfl sc__law_texts.nd (pi_range1 rfl z_range (pa_cons (pv 0) pa_nil)) (blkOk_by (own := [("_law_sign", 6)]) (N := ["_law_kinds", "_law_many", "_law_texts_here", "_law_k", "_law_more", "_law_text", "_law_sign"]) (sc := defScope s__law_texts) (by decide +kernel)) (fun _ _ _ _ _ => pg_name (i := 6) sc__law_texts.nd rfl (Or.inl rfl)) (fun _ _ _ _ _ => pts_nil) (fun _ _ _ _ _ => (pe_op (op_catLK (K := K) rfl) (pv 5) (pe_lst (pa_cons (pv 6) pa_nil)))))))))
      (pss_one (ps_set (i := 2) sc__law_texts.nd rfl (Or.inl rfl) (pv 4))))))
      (pss_one (ps_ret (pv 2))))), ?_⟩
    refine asgO (K := K) (ds := textsD n 0) (evo_lst (eds_cons (EvK.dat (EvO.k (evo_lst eds_nil (by show 0 ≤ 100000; omega)))) eds_nil) (by show 1 ≤ 100000; omega)) fun p0 vs0 H0 np0 s0 e0 d0 => ?_
    refine hold (forR (m := m) (ev_var rfl) (by omega) (fun i σ' H' => ∃ v2 y3 y4 y5, σ' = [some (.int n), some (.int m), some v2, y3, y4, y5, none] ∧ Same H0 H' ∧ Dp K H' v2 (.list (textsD n i))) (fun H1 s1 => ⟨_, _, _, _, rfl, s1, dp_same s1 _ _ (.lst (.inl (.inl e0)) d0)⟩) ?_ ?_)
    · rintro i σ' H' hi ⟨v2, y3, y4, y5, rfl, sm, h2⟩
      have lenI : ∀ j, j ≤ 3 → (textsB n j).length ≤ 512 := fun j hj => by
        have h1 := textsB_len (n := n) hn j
        have h2 : 8 ^ j ≤ 8 ^ 3 := Nat.pow_le_pow_right (by decide) hj
        omega
      refine asgO (K := K) (ds := []) (evo_lst eds_nil (by show 0 ≤ 100000; omega)) fun p4 vs4 G1 np4 r1 e4 d4 => ?_
      refine hold (forDL (ds := textsD n i) (evd_var rfl (dp_same r1 _ _ h2)) (fun k σ' H' => ∃ v4 y5, σ' = [some (.int n), some (.int m), some v2, some (.int i), some v4, y5, none] ∧ Same G1 H' ∧ Dp K H' v4 (.list (moreD n ((textsB n i).take k)))) (fun H1 r2 => ⟨_, _, rfl, r2, dp_same r2 _ _ (.lst (.inl (.inl e4)) d4)⟩) ?_ ?_)
      · rintro k x d σ' G G0 hk r2 r3 hx ⟨v4, y5, rfl, rm, h4⟩
        obtain ⟨t, ht, rfl⟩ : ∃ t, (textsB n i)[k]? = some t ∧ d = .list (t.map .int) := by
          unfold textsD at hk
          rw [List.getElem?_map] at hk
          cases e : (textsB n i)[k]? with
          | none => rw [e] at hk; cases hk
          | some t => rw [e] at hk; exact ⟨t, rfl, (Option.some.inj hk).symm⟩
        have hkl : k < (textsB n i).length := (List.getElem?_eq_some_iff.mp ht).1
        have hmore : moreD n ((textsB n i).take (k + 1)) = moreD n ((textsB n i).take k) ++ (List.range n).map fun (x : Nat) => PyData.list ((t ++ [(x : Int)]).map .int) := by
          unfold moreD
          rw [take_snoc ht, List.flatMap_append, List.map_append, List.flatMap_cons, List.flatMap_nil, List.append_nil, List.map_map]
          rfl
        have hml : (moreD n ((textsB n i).take k)).length ≤ 4096 := by
          have h1 := moreD_len n ((textsB n i).take k)
          have h2 : ((textsB n i).take k).length ≤ 512 := by rw [List.length_take]; have := lenI i (by omega); omega
          have h3 : ((textsB n i).take k).length * n ≤ 512 * 8 := Nat.mul_le_mul h2 hn
          omega
        have htl : t.length ≤ 3 := by have := (textsB_ok (List.mem_of_getElem? ht)).1; omega
        refine asgLastO (evo_catL (es := (List.range n).map fun (x : Nat) => PyData.list ((t ++ [(x : Int)]).map .int)) (evd_var rfl h4) (EvK.dat (EvO.k (EvO.is (evo_lcR (K := K) (m := n) (fun _ => true) (fun x => .list ((t ++ [(x : Int)]).map .int)) (ev_var rfl) (by omega) (fun x G2 R _ _ q => yes_t q) (fun x G2 D R hxn _ r4 hD r5 q => ?_)) (by rw [filter_yes])))) ?_) fun p us G2 np r4 e d => ?_
        · exact exv_ints hD (EvO.is (evo_catL (evd_var rfl (dp_same r4 _ _ hx)) (EvK.dat (EvO.k (evo_lst (eds_cons (evd_var rfl (.int _)) eds_nil) (by show 1 ≤ 100000; omega)))) (by rw [List.length_map]; show t.length + 1 ≤ 100000; omega)) (by rw [List.map_append]; rfl)) G2 R (Same.refl _) q
        · rw [List.length_map, List.length_range]
          omega
        · refine ⟨r3.trans r4, _, _, rfl, rm.trans r4, ?_⟩
          rw [hmore]
          exact .lst (.inl (.inl e)) d
      · rintro σ' G ⟨v4, y5, rfl, rm, h4⟩
        refine hold (asgLastD (evd_var rfl h4) fun v5 G2 r4 d5 => ⟨_, _, _, _, rfl, ((sm.trans r1).trans rm).trans r4, ?_⟩)
        have e : (textsB n i).take (textsD n i).length = textsB n i := by
          unfold textsD
          rw [List.length_map, List.take_length]
        rw [e] at d5
        exact d5
    · rintro σ' H' ⟨v2, y3, y4, y5, rfl, sm, h2⟩
      exact hold (retD (evd_var rfl h2) fun v H2 s2 d2 => q v H2 ((s0.trans sm).trans s2) d2)
theorem evd_texts {ta tb : TE} {σ : L2.St} {H : Hp} {n m : Nat} (h : EvV ta σ H (.int (n : Int))) (h2 : EvV tb σ H (.int (m : Int))) (hn : n ≤ 8) (hm : m ≤ 3) : EvD K (tCall (sp_texts K) [] E0 (tCons ta (tCons tb tNil))) σ H (.list (textsD n m)) :=
  evd_call (eds_cons h.int (eds_cons h2.int eds_nil)) fun vs H1 Q s1 d1 k => by
    obtain ⟨v, u, rfl, a1, a2⟩ := dpaN2 d1
    cases dp_int a1
    cases dp_int a2
    exact ⟨n, m, rfl, hn, hm, k⟩
theorem if_asg {tt : TT} {te : TE} {i : Nat} {u : TS} {D : Ends} {σ : L2.St} {H : Hp} {b : Bool} {v x0 : V} (h : EvB tt σ H b) (ha : EvV te σ H v) (hx : σ[i]? = some (some x0)) (k : ∀ y H1, Same H H1 → y = v ∨ y = x0 → u D (σ.set i (some y)) H1) : tSeq (tIfS tt (tAsg te (gName i)) tNext) u D σ H :=
  h H _ (Same.refl H) fun H1 s1 => by
    cases b with
    | true => exact iteT (asgLast (ha.mono s1) fun H2 s2 => k v H2 (s1.trans s2) (.inl rfl))
    | false =>
      have e : σ.set i (some x0) = σ := by
        obtain ⟨hi, e⟩ := List.getElem?_eq_some_iff.mp hx
        rw [← e, List.set_getElem_self]
      have := k x0 H1 s1 (.inr rfl)
      rw [e] at this
      exact iteF this
theorem last_within {cs : List Int} {g : Int} {t : List Int} (pl : Plan cs g) (tx : Text cs.length t) (h : t ≠ []) : withinB (textS cs g t) (textS cs g t.dropLast) = true := by
  have e := List.dropLast_concat_getLast h
  have hx := tx.2 (t.getLast h) (List.getLast_mem h)
  have hss : ∀ x ∈ t.dropLast, 0 ≤ x ∧ x < cs.length := fun x hm => by have := tx.2 x ((List.dropLast_subset _ hm)); omega
  obtain ⟨pa, la⟩ := after_ok pl hss
  have tx' : Text cs.length t.dropLast := by rw [List.dropLast_eq_take]; exact tx.take _
  have hs := strOf_snoc g (t.getLast h) t.dropLast whole3 cs
  rw [e] at hs
  unfold textS at *
  rw [hs]
  exact by_within (textS_ok pl tx') (plan_share pa hx.1 (by rw [la]; omega))
abbrev s_law : Stmt := topS 36
theorem sc_law : FnScope ["_law_script", "_law_plan_here", "_law_many", "_law_end", "_law_text", "_law_low", "_law_wide", "_law_whole_here"] ["_law_script"] (defScope s_law) := ⟨rfl, rfl, rfl, by decide +kernel, rfl, by decide +kernel, by decide +kernel⟩

def sp_law (K : PySem.W.Frag) : Sp := fun vs H Q _ => ∃ (a : Addr) (ns : List Int), vs = [.ref a] ∧ SqL K H a (ns.map V.int) ∧ ∀ H', Q (.bl true) H'
theorem ok_law (F : FnP K "law" s_law f fd) (c__law_cell_at : Cal P w K mg base CX0 1 "_law_cell_at" ["_law_script", "_law_k"] (sp_cell_at K)) (c__law_plan : Cal P w K mg base CX0 2 "_law_plan" ["_law_cell"] (sp_plan K)) (c__law_texts : Cal P w K mg base CX0 1 "_law_texts" ["_law_kinds", "_law_many"] (sp_texts K))
    (c_stretch_of : Cal P w K mg base (L2N.CX P w) 7 "stretch_of" ["plan", "signs"] (sp_stretch_of K)) (c_within : Cal P w K mg base CX0 1 "within" ["one", "other"] (sp_within K)) (z_len : mg "len" = none) (z_list : mg "list" = none) :
    FnOk P w K mg base CX0 8 f fd ["_law_script"] (sp_law K) := by
  refine F.ok sc_law (fun vs H Q E h => ?_) (fun cdv A outer s H vs Q E hr h => ?_)
  · obtain ⟨_, _, rfl, _⟩ := h
    rfl
  · obtain ⟨a, ns, rfl, hs, q⟩ := h
    refine ⟨_, PSs.nox (pss_hold (ps_set (i := 1) sc_law.nd rfl (Or.inl rfl) (pe_f c__law_plan (hr.mono (by decide)) (pa_cons (pe_f c__law_cell_at (hr.mono (by decide)) (pa_cons (pv 0) (pa_cons pe_int pa_nil))) pa_nil)))
      (pss_hold (ps_set (i := 2) sc_law.nd rfl (Or.inl rfl) (pe_op op_mod (pe_f c__law_cell_at (hr.mono (by decide)) (pa_cons (pv 0) (pa_cons pe_int pa_nil))) pe_int))
      (pss_hold (ps_if (PW.pt (pw_and (pt_cmpR op_eq (pv 2) pe_int (nomark _)) (pw_and1 (pt_cmpR op_gt (pe_callB (lenK (K := K) rfl) (by rfl) z_len (by decide +kernel) (pa_cons (pe_ix (ix_tupK (K := K) rfl) (pv 1) pe_int (fun _ _ => rfl)) pa_nil)) pe_int (nomark _))))) (pss_one (ps_set (i := 2) sc_law.nd rfl (Or.inl rfl) pe_int)) pss_nil)
      (pss_hold (ps_set (i := 3) sc_law.nd rfl (Or.inl rfl) (pe_tup (pa_cons pe_int (pa_cons pe_int pa_nil))))
      (pss_hold (ps_for PassesOwn.never rfl (pi_listK (K := K) rfl (pe_f c__law_texts (hr.mono (by decide)) (pa_cons (pe_callB (lenK (K := K) rfl) (by rfl) z_len (by decide +kernel) (pa_cons (pe_ix (ix_tupK (K := K) rfl) (pv 1) pe_int (fun _ _ => rfl)) pa_nil)) (pa_cons (pv 2) pa_nil)))) (pg_name (i := 4) sc_law.nd rfl (.inl rfl)) (pss_hold (ps_asg (pe_fN c_stretch_of (hr.mono (by decide)) (pa_cons (pv 1) (pa_cons (pe_callTy (listK (K := K) rfl) (by rfl) z_list (by decide +kernel) (pa_cons (pv 4) pa_nil)) pa_nil))) (pg_tupK (K := K) (n := 3) rfl rfl (pgs_cons (pg_name (i := 5) sc_law.nd rfl (.inl rfl)) (pgs_cons (pg_name (i := 6) sc_law.nd rfl (.inl rfl)) (pgs_cons (pg_name (i := 7) sc_law.nd rfl (.inl rfl)) pgs_nil)))))
      (pss_hold (ps_if (PW.pt (pw_or (pt_cmpR op_ne (pe_op op_mulW (pv 5) (pe_ix (ix_tupK (K := K) rfl) (pv 3) pe_int (fun _ _ => rfl))) (pe_op op_mulW (pe_ix (ix_tupK (K := K) rfl) (pv 3) pe_int (fun _ _ => rfl)) (pv 7)) (nomark _)) (pw_or1 (pt_cmpR op_lt (pv 6) pe_int (nomark _))))) (pss_one (ps_ret pe_bl)) pss_nil)
      (pss_hold (ps_if (PW.pt (pw_and (pt_cmpR (op_neDK (K := K) rfl (hu2_of hr)) (pv 4) (pe_lst pa_nil) (nomark _)) (pw_and1 (pt_not (pt_val (pe_f c_within (hr.mono (by decide)) (pa_cons (pe_tup (pa_cons (pv 5) (pa_cons (pv 6) (pa_cons (pv 7) pa_nil)))) (pa_cons (pe_fN c_stretch_of (hr.mono (by decide)) (pa_cons (pv 1) (pa_cons (pe_slice (sl_listK (K := K) rfl) (pv 4) po_none (po_some (pe_un un_neg pe_int))) pa_nil))) pa_nil)))))))) (pss_one (ps_ret pe_bl)) pss_nil)
      (pss_one (ps_set (i := 3) sc_law.nd rfl (Or.inl rfl) (pe_tup (pa_cons (pe_op op_add (pv 5) (pv 6)) (pa_cons (pv 7) pa_nil)))))))))
      (pss_one (ps_ret (pe_cmpR op_eq (pe_ix (ix_tupK (K := K) rfl) (pv 3) pe_int (fun _ _ => rfl)) (pe_ix (ix_tupK (K := K) rfl) (pv 3) pe_int (fun _ _ => rfl)) (nomark _))))))))), ?_⟩
    have hsd : Dp K H (.ref a) (.list (ns.map PyData.int)) := .lst hs (dpa_ints ns)
    refine asgD (evd_plan (ev_cell (k := 0) (evd_var rfl hsd) ev_c)) fun v1 H1 s1 d1 => ?_
    have pl := plan_ok (cellAt ns 0)
    generalize planCs (cellAt ns 0) = cs at d1 pl
    generalize planG (cellAt ns 0) = g at d1 pl
    have l2 := pl.two
    have c1 := dp_same s1 _ _ hsd
    have h40 : 0 ≤ cellAt ns 1 % 4 := Int.emod_nonneg _ (by decide)
    have h4 : cellAt ns 1 % 4 < 4 := Int.emod_lt_of_pos _ (by decide)
    refine hold (asgV (v := .int (cellAt ns 1 % 4)) (ev_op (ev_cell (k := 1) (evd_var rfl c1) ev_c) ev_c (by decide)) fun H2 s2 => ?_)
    have d2 := dp_same s2 _ _ d1
    have hlen : ∀ {σ : L2.St} {G : Hp}, σ[1]? = some (some v1) → Dp K G v1 (planD cs g) → EvV (tCB (rLenK K) (tCons (tOp (rIxT K) (tVar 1) (tC (V.int 0))) tNil)) σ G (.int (cs.length : Int)) := fun e h =>
      EvV.is (ev_lenT (evd_ixT (ds := [.tuple (cs.map PyData.int), .int g]) (n := 0) (evd_var e h) ev_c (by decide) rfl)) (by rw [List.length_map])
    refine hold (if_asg (v := .int 2) (evb_and (b := decide (4 < (cs.length : Int))) (evb_test (ev_eqI (ev_var rfl) ev_c)) fun _ => evb_test (EvV.is (ev_op0 (g := fun i j => V.bl (decide (j < i))) (hlen rfl d2) ev_c) rfl)) ev_c rfl fun y H3 s3 hy => ?_)
    obtain ⟨m, rfl, hm⟩ : ∃ m : Nat, y = .int (m : Int) ∧ m ≤ 3 := by
      rcases hy with rfl | rfl
      · exact ⟨2, rfl, by omega⟩
      · exact ⟨(cellAt ns 1 % 4).toNat, by rw [Int.toNat_of_nonneg h40], by omega⟩
    have l8 := pl.eight
    have t3 := s2.trans s3
    have d3 := dp_same s3 _ _ d2
    refine hold (asgD (K := K) (d := .tuple [.int 0, .int 1]) (evd_tup (eds_cons evd_int (eds_cons evd_int eds_nil)) (by show 2 ≤ 100000; omega)) fun v3 H4 s4 d4 => ?_)
    have d14 := dp_same s4 _ _ d3
    have txs : ∀ t ∈ textsB cs.length m, Text cs.length t := fun t ht => by
      obtain ⟨e, hx⟩ := textsB_ok ht
      exact ⟨by omega, fun x hh => by have := hx x hh; omega⟩
    refine hold (forDL (ds := textsD cs.length m) (evd_texts (hlen rfl d14) (ev_var rfl) l8 hm) (fun i σ' H' => ∃ v3 e1 e2 y4 y5 y6 y7, σ' = [some (.ref a), some v1, some (.int (m : Int)), some v3, y4, y5, y6, y7] ∧ Same H4 H' ∧ Dp K H' v3 (.tuple [.int e1, .int e2]) ∧ e1.natAbs < 2 ^ 1400 ∧ e2.natAbs < 2 ^ 1400 ∧ Chain (((textsB cs.length m).drop i).map (textS cs g)) (e1, e2) (1, 1))
      (fun G r => ⟨v3, 0, 1, _, _, _, _, rfl, r, dp_same r _ _ d4, Nat.pow_pos (by decide), Nat.one_lt_two_pow (by decide), chain_texts pl m (by omega)⟩) ?_ ?_)
    · rintro i x d σ' G G0 hk r2 r3 hx ⟨v3, e1, e2, y4, y5, y6, y7, rfl, rm, h3, b1, b2, ch⟩
      obtain ⟨t, ht, rfl⟩ : ∃ t, (textsB cs.length m)[i]? = some t ∧ d = .list (t.map .int) := by
        unfold textsD at hk
        rw [List.getElem?_map] at hk
        cases e : (textsB cs.length m)[i]? with
        | none => rw [e] at hk; cases hk
        | some t => rw [e] at hk; exact ⟨t, rfl, (Option.some.inj hk).symm⟩
      have tx := txs t (List.mem_of_getElem? ht)
      obtain ⟨hi, et⟩ := List.getElem?_eq_some_iff.mp ht
      rw [List.drop_eq_getElem_cons hi, et] at ch
      obtain ⟨c1, c2, c3, c4⟩ := ch
      have ok := textS_ok pl tx
      have tx' : Text cs.length t.dropLast := by rw [List.dropLast_eq_take]; exact tx.take _
      have ok' := textS_ok pl tx'
      have hw := last_within (g := g) pl tx
      have y1 := stretch_yes pl tx
      have y2 := stretch_yes pl tx'
      generalize textS cs g t = s at c1 c2 c3 c4 ok hw y1
      generalize textS cs g t.dropLast = s' at ok' hw y2
      have dG := dp_same rm _ _ d14
      refine unpS (s := s) (evd_X (eds_cons (evd_var rfl dG) (eds_cons (EvK.dat (EvO.k (evd_listOfL (evd_var rfl hx)))) eds_nil)) rfl y1) fun G1 q1 => ?_
      have h3a := dp_same q1 _ _ h3
      refine hold (ifNo (EvB.is (evb_or (a := !decide (s.l * e2 = e1 * s.t)) (b := decide (s.w < 1)) (evb_test (ev_neI (ev_op (C := CMulW) (g := fun i j => V.int (i * j)) (ev_var rfl) (EvD.v_int (evd_ixT (n := 1) (evd_var rfl h3a) ev_c (by decide) rfl)) (wmul ok.labs b2 (by omega))) (ev_op (C := CMulW) (g := fun i j => V.int (i * j)) (EvD.v_int (evd_ixT (n := 0) (evd_var rfl h3a) ev_c (by decide) rfl)) (ev_var rfl) (wmul b1 ok.tabs (by omega)))))
        fun _ => evb_test (EvV.is (ev_op0 (g := fun i j => V.bl (decide (i < j))) (ev_var rfl) ev_c) rfl)) ?_) fun G2 q2 => ?_)
      · have e : s.l * e2 = e1 * s.t := (show e1 * s.t = s.l * e2 from c1).symm
        rw [decide_eq_true e, decide_eq_false (by omega)]
        rfl
      have shl : ∀ l : List Int, ShN 1 (.list (l.map PyData.int)) := fun l => sh_lst sh_ints
      have dG2 := dp_same (q1.trans q2) _ _ dG
      have hx2 := dp_same (q1.trans q2) _ _ hx
      refine hold (ifNo (EvB.is (evb_and (a := !PyData.eqv (.list (t.map .int)) (.list (([] : List Int).map .int))) (b := !withinB s s') (evb_test (ev_ne (evd_var rfl hx2) (EvK.dat (EvO.k (evo_lst eds_nil (by show 0 ≤ 100000; omega)))) ((shl t).ok (by omega)) ((shl []).ok (by omega))))
        fun _ => evb_not (evb_b (ev_within (s := s) (t := s') (evd_tup (eds_cons (evd_var rfl (.int _)) (eds_cons (evd_var rfl (.int _)) (eds_cons (evd_var rfl (.int _)) eds_nil))) (by show 3 ≤ 100000; omega)) (evd_X (eds_cons (evd_var rfl dG2) (eds_cons (EvK.dat (EvO.k (EvO.is (evo_last (evd_var rfl hx2)) List.map_dropLast.symm))) eds_nil)) rfl y2) ok ok' (by omega)))) ?_) fun G3 q3 => ?_)
      · by_cases z : t = []
        · subst z
          rw [eqv_self (shl [])]
          rfl
        · rw [hw z, Bool.not_true, Bool.and_false]
      refine hold (asgLastD (K := K) (d := .tuple [.int (s.l + s.w), .int s.t]) (evd_tup (eds_cons (EvV.int (EvV.is (ev_op0 (g := fun i j => V.int (i + j)) (ev_var rfl) (ev_var rfl)) rfl)) (eds_cons (evd_var rfl (.int _)) eds_nil)) (by show 2 ≤ 100000; omega)) fun v3' G4 q4 d5 => ?_)
      exact ⟨(((r3.trans q1).trans q2).trans q3).trans q4, v3', _, _, _, _, _, _, rfl, ((((rm.trans q1).trans q2).trans q3).trans q4), d5, ok.lwabs, ok.tabs, c4⟩
    · rintro σ' G ⟨v3, e1, e2, y4, y5, y6, y7, rfl, rm, h3, b1, b2, ch⟩
      have e0 : (textsB cs.length m).drop (textsD cs.length m).length = [] := by
        unfold textsD
        rw [List.length_map, List.drop_length]
      rw [e0] at ch
      have e : e1 = e2 := by
        have c : e1 * 1 = 1 * e2 := ch
        omega
      refine hold (retV (v := .bl true) (EvV.is (ev_eqI (EvD.v_int (evd_ixT (n := 0) (evd_var rfl h3) ev_c (by decide) rfl)) (EvD.v_int (evd_ixT (n := 1) (evd_var rfl h3) ev_c (by decide) rfl))) (by rw [decide_eq_true e])) fun G1 _ => q G1)
end

/-! ### what the top leaves -/
def dd (i : Nat) (x : Str) : He.DefD := ⟨(x, none), x, x, defArgs (topS i), defBody (topS i), defScope (topS i), [], []⟩
def fn : List He.DefD := [dd 5 "is_whole", dd 19 "_last_sign", dd 22 "parted", dd 23 "within", dd 27 "_law_cell_at", dd 28 "_law_mixed", dd 29 "_law_whole", dd 31 "_law_behind", dd 35 "_law_texts", dd 6 "are_whole", dd 30 "_law_plan", dd 32 "_law_signs", dd 7 "is_whole_list", dd 14 "need_plan", dd 15 "need_signs", dd 18 "_need_sign", dd 16 "share", dd 17 "behind", dd 25 "stepped", dd 24 "stretch_of", dd 36 "law"]
def fa : List He.Fa := [.glo "is_whole", .glo "_last_sign", .glo "parted", .glo "within", .glo "_law_cell_at", .glo "_law_mixed", .glo "_law_whole", .glo "_law_behind", .glo "_law_texts", .glo "are_whole", .glo "_law_plan", .glo "_law_signs", .glo "is_whole_list", .glo "need_plan", .glo "need_signs", .glo "_need_sign", .glo "share", .glo "behind", .glo "stepped", .glo "stretch_of", .glo "law", .glo "PressError", .glo "BadPlan", .glo "BadSign", .free "all", .free "bool", .free "int", .free "isinstance", .free "len", .free "list", .free "min", .free "range", .free "sum", .free "tuple", .free "type", .glo "WHOLE", .int "FEWEST_COUNTS" 2, .int "GREATEST_COUNT" 1000000, .int "GREATEST_GAIN" 1000000, .int "LONGEST_TEXT" 60, .int "MOST_COUNTS" 8]
abbrev R : PySem.W.OpenRow := PySem.W.OpenLaw.row PySem.Challenge.rw_partline_k03_whole_side_by_side
abbrev exB (K : PySem.W.Frag) : Bool := errsR [.plan, .sign] K && He.tupB K "WHOLE" [.int 0, .int 1, .int 1]
abbrev hk : PySem.W.Hook := He.hookX 4 fa fn [] [] exB
def ob (s : PySem.W.SharedT) : He.AlX := He.obsX 4 fa fn [] [] exB (HandSHeadRun.getT s)
theorem ob_eq (s : PySem.W.SharedT) : ob s = hk.obs s.abs := He.obsX_eq (HandSHeadRun.getT_eq s)
def names : List Str := (["PressError", "BadPlan", "BadSign", "is_whole", "are_whole", "is_whole_list", "FEWEST_COUNTS", "MOST_COUNTS", "GREATEST_COUNT", "GREATEST_GAIN", "LONGEST_TEXT", "need_plan", "need_signs", "share", "behind", "_need_sign", "_last_sign", "WHOLE", "parted", "within"] : List Str) ++ (["stretch_of", "stepped", "_law_cell_at", "_law_mixed", "_law_whole", "_law_plan", "_law_behind", "_law_signs", "_law_stretch", "_law_within", "_law_texts"] : List Str)
theorem run (w : World) : HandSHeadRun.RunEq R (PySem.W.view R.prog [36]) hk ob 30000 names w := by
  intro os
  kernel_rfl
theorem facts {w : World} {K : PySem.W.Frag} {h : Heap} {mg : Str → Option Value} {f : Addr} (X : K.In h) (G : h.Ns mainGlobals mg) (hfa : mg ("law" : Str) = some (.ref f)) (c : He.SaysX fa fn [] [] exB w h K) :
    ∃ fd : FuncData, (∀ (s : Shared) (v : Value), BindsTo s fd ⟨[v], []⟩ [("_law_script", v)]) ∧ ∀ base : Heap, K.In base → base.Ns mainGlobals mg → FnOk PP w K mg base CX0 8 f fd ["_law_script"] (sp_law K) := by
  have cm : exB K = true := c.more
  have t_WHOLE : ∀ H : Hp, SqT K H (He.ga K "WHOLE") [.int 0, .int 1, .int 1] := fun H => He.tupB_ok (He.ba cm).2 H
  replace cm := (He.ba cm).1
  have D : He.SaysD fa fn K := c.t.d
  obtain ⟨fd_is_whole, F_is_whole⟩ := D.def_ 0 (d := dd 5 "is_whole") rfl
  obtain ⟨fd__last_sign, F__last_sign⟩ := D.def_ 1 (d := dd 19 "_last_sign") rfl
  obtain ⟨fd_parted, F_parted⟩ := D.def_ 2 (d := dd 22 "parted") rfl
  obtain ⟨fd_within, F_within⟩ := D.def_ 3 (d := dd 23 "within") rfl
  obtain ⟨fd__law_cell_at, F__law_cell_at⟩ := D.def_ 4 (d := dd 27 "_law_cell_at") rfl
  obtain ⟨fd__law_mixed, F__law_mixed⟩ := D.def_ 5 (d := dd 28 "_law_mixed") rfl
  obtain ⟨fd__law_whole, F__law_whole⟩ := D.def_ 6 (d := dd 29 "_law_whole") rfl
  obtain ⟨fd__law_behind, F__law_behind⟩ := D.def_ 7 (d := dd 31 "_law_behind") rfl
  obtain ⟨fd__law_texts, F__law_texts⟩ := D.def_ 8 (d := dd 35 "_law_texts") rfl
  obtain ⟨fd_are_whole, F_are_whole⟩ := D.def_ 9 (d := dd 6 "are_whole") rfl
  obtain ⟨fd__law_plan, F__law_plan⟩ := D.def_ 10 (d := dd 30 "_law_plan") rfl
  obtain ⟨fd__law_signs, F__law_signs⟩ := D.def_ 11 (d := dd 32 "_law_signs") rfl
  obtain ⟨fd_is_whole_list, F_is_whole_list⟩ := D.def_ 12 (d := dd 7 "is_whole_list") rfl
  obtain ⟨fd_need_plan, F_need_plan⟩ := D.def_ 13 (d := dd 14 "need_plan") rfl
  obtain ⟨fd_need_signs, F_need_signs⟩ := D.def_ 14 (d := dd 15 "need_signs") rfl
  obtain ⟨fd__need_sign, F__need_sign⟩ := D.def_ 15 (d := dd 18 "_need_sign") rfl
  obtain ⟨fd_share, F_share⟩ := D.def_ 16 (d := dd 16 "share") rfl
  obtain ⟨fd_behind, F_behind⟩ := D.def_ 17 (d := dd 17 "behind") rfl
  obtain ⟨fd_stepped, F_stepped⟩ := D.def_ 18 (d := dd 25 "stepped") rfl
  obtain ⟨fd_stretch_of, F_stretch_of⟩ := D.def_ 19 (d := dd 24 "stretch_of") rfl
  obtain ⟨fd_law, F_law⟩ := D.def_ 20 (d := dd 36 "law") rfl
  have g_is_whole := He.glo_ok X G (D.fact 0 (f := .glo "is_whole") rfl)
  have g__last_sign := He.glo_ok X G (D.fact 1 (f := .glo "_last_sign") rfl)
  have g_parted := He.glo_ok X G (D.fact 2 (f := .glo "parted") rfl)
  have g_within := He.glo_ok X G (D.fact 3 (f := .glo "within") rfl)
  have g__law_cell_at := He.glo_ok X G (D.fact 4 (f := .glo "_law_cell_at") rfl)
  have g__law_mixed := He.glo_ok X G (D.fact 5 (f := .glo "_law_mixed") rfl)
  have g__law_whole := He.glo_ok X G (D.fact 6 (f := .glo "_law_whole") rfl)
  have g__law_behind := He.glo_ok X G (D.fact 7 (f := .glo "_law_behind") rfl)
  have g__law_texts := He.glo_ok X G (D.fact 8 (f := .glo "_law_texts") rfl)
  have g_are_whole := He.glo_ok X G (D.fact 9 (f := .glo "are_whole") rfl)
  have g__law_plan := He.glo_ok X G (D.fact 10 (f := .glo "_law_plan") rfl)
  have g__law_signs := He.glo_ok X G (D.fact 11 (f := .glo "_law_signs") rfl)
  have g_is_whole_list := He.glo_ok X G (D.fact 12 (f := .glo "is_whole_list") rfl)
  have g_need_plan := He.glo_ok X G (D.fact 13 (f := .glo "need_plan") rfl)
  have g_need_signs := He.glo_ok X G (D.fact 14 (f := .glo "need_signs") rfl)
  have g__need_sign := He.glo_ok X G (D.fact 15 (f := .glo "_need_sign") rfl)
  have g_share := He.glo_ok X G (D.fact 16 (f := .glo "share") rfl)
  have g_behind := He.glo_ok X G (D.fact 17 (f := .glo "behind") rfl)
  have g_stepped := He.glo_ok X G (D.fact 18 (f := .glo "stepped") rfl)
  have g_stretch_of := He.glo_ok X G (D.fact 19 (f := .glo "stretch_of") rfl)
  have g_law := He.glo_ok X G (D.fact 20 (f := .glo "law") rfl)
  have g_PressError := He.glo_ok X G (D.fact 21 (f := .glo "PressError") rfl)
  have g_BadPlan := He.glo_ok X G (D.fact 22 (f := .glo "BadPlan") rfl)
  have g_BadSign := He.glo_ok X G (D.fact 23 (f := .glo "BadSign") rfl)
  have z_all := He.free_ok X G (D.fact 24 (f := .free "all") rfl)
  have z_bool := He.free_ok X G (D.fact 25 (f := .free "bool") rfl)
  have z_int := He.free_ok X G (D.fact 26 (f := .free "int") rfl)
  have z_isinstance := He.free_ok X G (D.fact 27 (f := .free "isinstance") rfl)
  have z_len := He.free_ok X G (D.fact 28 (f := .free "len") rfl)
  have z_list := He.free_ok X G (D.fact 29 (f := .free "list") rfl)
  have z_min := He.free_ok X G (D.fact 30 (f := .free "min") rfl)
  have z_range := He.free_ok X G (D.fact 31 (f := .free "range") rfl)
  have z_sum := He.free_ok X G (D.fact 32 (f := .free "sum") rfl)
  have z_tuple := He.free_ok X G (D.fact 33 (f := .free "tuple") rfl)
  have z_type := He.free_ok X G (D.fact 34 (f := .free "type") rfl)
  have g_WHOLE := He.glo_ok X G (D.fact 35 (f := .glo "WHOLE") rfl)
  obtain ⟨u_FEWEST_COUNTS, g_FEWEST_COUNTS⟩ := He.int_ok X G (D.fact 36 (f := .int "FEWEST_COUNTS" 2) rfl)
  obtain ⟨u_GREATEST_COUNT, g_GREATEST_COUNT⟩ := He.int_ok X G (D.fact 37 (f := .int "GREATEST_COUNT" 1000000) rfl)
  obtain ⟨u_GREATEST_GAIN, g_GREATEST_GAIN⟩ := He.int_ok X G (D.fact 38 (f := .int "GREATEST_GAIN" 1000000) rfl)
  obtain ⟨u_LONGEST_TEXT, g_LONGEST_TEXT⟩ := He.int_ok X G (D.fact 39 (f := .int "LONGEST_TEXT" 60) rfl)
  obtain ⟨u_MOST_COUNTS, g_MOST_COUNTS⟩ := He.int_ok X G (D.fact 40 (f := .int "MOST_COUNTS" 8) rfl)
  have x_BadPlan : Exn K mg .plan := ⟨(errsR_ok cm .plan (by simp)).1, g_BadPlan, (errsR_ok cm .plan (by simp)).2.1, (errsR_ok cm .plan (by simp)).2.2.1, (errsR_ok cm .plan (by simp)).2.2.2⟩
  have x_BadSign : Exn K mg .sign := ⟨(errsR_ok cm .sign (by simp)).1, g_BadSign, (errsR_ok cm .sign (by simp)).2.1, (errsR_ok cm .sign (by simp)).2.2.1, (errsR_ok cm .sign (by simp)).2.2.2⟩
  have e := hfa.symm.trans g_law
  cases e
  have b := FunD.bindsA (ps := ["_law_script"]) F_law fun _ _ _ _ _ _ us hl => match us, hl with | [_], _ => rfl
  refine ⟨fd_law, fun s v => b s [v] rfl, fun base _ _ => ?_⟩
  have c_is_whole : Cal PP w K mg base CX0 1 "is_whole" ["value", "least", "most"] (sp_is_whole K) := ⟨He.ga K "is_whole", fd_is_whole, ok_is_whole (F := F_is_whole) (z_type := z_type) (z_int := z_int), g_is_whole, F_is_whole.kp, F_is_whole.bindsN fun _ _ _ _ _ _ us hl => match us, hl with | [_, _, _], _ => rfl⟩
  have c__last_sign : Cal PP w K mg base CX0 1 "_last_sign" ["plan"] (sp_last_sign K) := ⟨He.ga K "_last_sign", fd__last_sign, ok_last_sign (F := F__last_sign) (z_len := z_len), g__last_sign, F__last_sign.kp, F__last_sign.bindsN fun _ _ _ _ _ _ us hl => match us, hl with | [_], _ => rfl⟩
  have c_parted : Cal PP w K mg base CX0 1 "parted" ["stretch", "one"] (sp_parted K) := ⟨He.ga K "parted", fd_parted, ok_parted (F := F_parted), g_parted, F_parted.kp, F_parted.bindsN fun _ _ _ _ _ _ us hl => match us, hl with | [_, _], _ => rfl⟩
  have c_within : Cal PP w K mg base CX0 1 "within" ["one", "other"] (sp_within K) := ⟨He.ga K "within", fd_within, ok_within (F := F_within), g_within, F_within.kp, F_within.bindsN fun _ _ _ _ _ _ us hl => match us, hl with | [_, _], _ => rfl⟩
  have c__law_cell_at : Cal PP w K mg base CX0 1 "_law_cell_at" ["_law_script", "_law_k"] (sp_cell_at K) := ⟨He.ga K "_law_cell_at", fd__law_cell_at, ok_cell_at (F := F__law_cell_at) (z_len := z_len), g__law_cell_at, F__law_cell_at.kp, F__law_cell_at.bindsN fun _ _ _ _ _ _ us hl => match us, hl with | [_, _], _ => rfl⟩
  have c__law_mixed : Cal PP w K mg base CX0 1 "_law_mixed" ["_law_cell", "_law_k"] (sp_mixed) := ⟨He.ga K "_law_mixed", fd__law_mixed, ok_mixed (F := F__law_mixed), g__law_mixed, F__law_mixed.kp, F__law_mixed.bindsN fun _ _ _ _ _ _ us hl => match us, hl with | [_, _], _ => rfl⟩
  have c__law_whole : Cal PP w K mg base CX0 1 "_law_whole" ["_law_found"] (sp_whole K) := ⟨He.ga K "_law_whole", fd__law_whole, ok_whole (F := F__law_whole) (z_isinstance := z_isinstance) (z_int := z_int) (z_bool := z_bool), g__law_whole, F__law_whole.kp, F__law_whole.bindsN fun _ _ _ _ _ _ us hl => match us, hl with | [_], _ => rfl⟩
  have c__law_behind : Cal PP w K mg base CX0 1 "_law_behind" ["_law_plan_here", "_law_sign"] (sp_lbehind K) := ⟨He.ga K "_law_behind", fd__law_behind, ok_lbehind (F := F__law_behind) (z_list := z_list) (z_min := z_min) (z_tuple := z_tuple), g__law_behind, F__law_behind.kp, F__law_behind.bindsN fun _ _ _ _ _ _ us hl => match us, hl with | [_, _], _ => rfl⟩
  have c__law_texts : Cal PP w K mg base CX0 1 "_law_texts" ["_law_kinds", "_law_many"] (sp_texts K) := ⟨He.ga K "_law_texts", fd__law_texts, ok_texts (F := F__law_texts) (z_range := z_range), g__law_texts, F__law_texts.kp, F__law_texts.bindsN fun _ _ _ _ _ _ us hl => match us, hl with | [_, _], _ => rfl⟩
  have c_are_whole : Cal PP w K mg base CX0 2 "are_whole" ["values", "least", "most"] (sp_are_whole K) := ⟨He.ga K "are_whole", fd_are_whole, ok_are_whole (F := F_are_whole) (c_is_whole := c_is_whole) (z_all := z_all), g_are_whole, F_are_whole.kp, F_are_whole.bindsN fun _ _ _ _ _ _ us hl => match us, hl with | [_, _, _], _ => rfl⟩
  have c__law_plan : Cal PP w K mg base CX0 2 "_law_plan" ["_law_cell"] (sp_plan K) := ⟨He.ga K "_law_plan", fd__law_plan, ok_plan (F := F__law_plan) (c__law_mixed := c__law_mixed) (z_range := z_range) (z_len := z_len) (z_tuple := z_tuple), g__law_plan, F__law_plan.kp, F__law_plan.bindsN fun _ _ _ _ _ _ us hl => match us, hl with | [_], _ => rfl⟩
  have c__law_signs : Cal PP w K mg base CX0 2 "_law_signs" ["_law_cell", "_law_plan_here", "_law_most"] (sp_signs K) := ⟨He.ga K "_law_signs", fd__law_signs, ok_signs (F := F__law_signs) (c__law_mixed := c__law_mixed) (z_range := z_range) (z_len := z_len), g__law_signs, F__law_signs.kp, F__law_signs.bindsN fun _ _ _ _ _ _ us hl => match us, hl with | [_, _, _], _ => rfl⟩
  have c_is_whole_list : Cal PP w K mg base CX0 3 "is_whole_list" ["values", "longest", "least", "most"] (sp_is_whole_list K) := ⟨He.ga K "is_whole_list", fd_is_whole_list, ok_is_whole_list (F := F_is_whole_list) (c_are_whole := c_are_whole) (z_type := z_type) (z_list := z_list) (z_len := z_len), g_is_whole_list, F_is_whole_list.kp, F_is_whole_list.bindsN fun _ _ _ _ _ _ us hl => match us, hl with | [_, _, _, _], _ => rfl⟩
  have c_need_plan : Cal PP w K mg base (L2N.CX PP w) 3 "need_plan" ["plan"] (sp_need_plan K) := ⟨He.ga K "need_plan", fd_need_plan, ok_need_plan (F := F_need_plan) (c_is_whole := c_is_whole) (c_are_whole := c_are_whole) (x_BadPlan := x_BadPlan) (z_type := z_type) (z_tuple := z_tuple) (z_len := z_len) (g_FEWEST_COUNTS := g_FEWEST_COUNTS) (g_MOST_COUNTS := g_MOST_COUNTS) (g_GREATEST_COUNT := g_GREATEST_COUNT) (g_GREATEST_GAIN := g_GREATEST_GAIN), g_need_plan, F_need_plan.kp, F_need_plan.bindsN fun _ _ _ _ _ _ us hl => match us, hl with | [_], _ => rfl⟩
  have c_need_signs : Cal PP w K mg base (L2N.CX PP w) 4 "need_signs" ["plan", "signs"] (sp_need_signs K) := ⟨He.ga K "need_signs", fd_need_signs, ok_need_signs (F := F_need_signs) (c_need_plan := c_need_plan) (c_is_whole_list := c_is_whole_list) (c__last_sign := c__last_sign) (x_BadSign := x_BadSign) (g_LONGEST_TEXT := g_LONGEST_TEXT), g_need_signs, F_need_signs.kp, F_need_signs.bindsN fun _ _ _ _ _ _ us hl => match us, hl with | [_, _], _ => rfl⟩
  have c__need_sign : Cal PP w K mg base (L2N.CX PP w) 4 "_need_sign" ["plan", "sign"] (sp_need_sign K) := ⟨He.ga K "_need_sign", fd__need_sign, ok_need_sign (F := F__need_sign) (c_need_plan := c_need_plan) (c_is_whole := c_is_whole) (c__last_sign := c__last_sign) (x_BadSign := x_BadSign), g__need_sign, F__need_sign.kp, F__need_sign.bindsN fun _ _ _ _ _ _ us hl => match us, hl with | [_, _], _ => rfl⟩
  have c_share : Cal PP w K mg base (L2N.CX PP w) 5 "share" ["plan", "sign"] (sp_share K) := ⟨He.ga K "share", fd_share, ok_share (F := F_share) (c__need_sign := c__need_sign) (z_sum := z_sum), g_share, F_share.kp, F_share.bindsN fun _ _ _ _ _ _ us hl => match us, hl with | [_, _], _ => rfl⟩
  have c_behind : Cal PP w K mg base (L2N.CX PP w) 5 "behind" ["plan", "sign"] (sp_behind K) := ⟨He.ga K "behind", fd_behind, ok_behind (F := F_behind) (c__need_sign := c__need_sign) (z_min := z_min) (g_GREATEST_COUNT := g_GREATEST_COUNT), g_behind, F_behind.kp, F_behind.bindsN fun _ _ _ _ _ _ us hl => match us, hl with | [_, _], _ => rfl⟩
  have c_stepped : Cal PP w K mg base CX0 6 "stepped" ["stretch", "plan", "sign"] (sp_stepped K) := ⟨He.ga K "stepped", fd_stepped, ok_stepped (F := F_stepped) (c_parted := c_parted) (c_share := c_share) (c_behind := c_behind), g_stepped, F_stepped.kp, F_stepped.bindsN fun _ _ _ _ _ _ us hl => match us, hl with | [_, _, _], _ => rfl⟩
  have c_stretch_of : Cal PP w K mg base (L2N.CX PP w) 7 "stretch_of" ["plan", "signs"] (sp_stretch_of K) := ⟨He.ga K "stretch_of", fd_stretch_of, ok_stretch_of (F := F_stretch_of) (c_need_signs := c_need_signs) (c_stepped := c_stepped) (g_WHOLE := g_WHOLE) (t_WHOLE := t_WHOLE), g_stretch_of, F_stretch_of.kp, F_stretch_of.bindsN fun _ _ _ _ _ _ us hl => match us, hl with | [_, _], _ => rfl⟩
  exact ok_law (F := F_law) (c__law_cell_at := c__law_cell_at) (c__law_plan := c__law_plan) (c__law_texts := c__law_texts) (c_stretch_of := c_stretch_of) (c_within := c_within) (z_len := z_len) (z_list := z_list)
end Pl
open PySem PySem.W PySem.Calls PyProof.Rows
set_option maxRecDepth 100000 in
set_option maxHeartbeats 0 in
theorem PySem.Challenge.cw_partline_k03_whole_side_by_side_holds : PySem.Challenge.rw_partline_k03_whole_side_by_side.Holds := by
  w_on; o_law
  refine HandSHeadRun.head_any (r := OpenLaw.row PySem.Challenge.rw_partline_k03_whole_side_by_side) (q := view (OpenLaw.row PySem.Challenge.rw_partline_k03_whole_side_by_side).prog [36]) (H := Pl.hk) (ob := Pl.ob) (M := 30000) (loose := Pl.names) (d := HandSHeadRun.topDef (OpenLaw.row PySem.Challenge.rw_partline_k03_whole_side_by_side).prog 36) (kwd := []) Pl.ob_eq
    (by kernel_rfl) (fun s => by kernel_rfl) Pl.run (by kernel_rfl) (by kernel_rfl) (by kernel_rfl) (by rfl) (by first | assumption | decide +kernel) (by decide +kernel) ⟨rfl, rfl, rfl, rfl, rfl, by decide +kernel⟩ ?hw ?hc
  case hw => w_witness2
  case hc =>
    refine L2.walk_ofE (l := PySem.Challenge.rw_partline_k03_whole_side_by_side) (n := 63) (k := 8) (x := "_law_script") (CX := L2.CX0) rfl (by decide) (by kernel_rfl) ⟨rfl, by decide, by decide⟩ ?F (fun _ _ _ _ z => z)
    intro w mg fa h Y G hmg0
    obtain ⟨K, KX, c⟩ := Y
    have hmg : mg ("law" : PySem.Str) = some (.ref fa) := by
      have e : (HandSHeadRun.topDef (OpenLaw.row PySem.Challenge.rw_partline_k03_whole_side_by_side).prog 36).name = ("law" : PySem.Str) := by kernel_rfl
      rw [← e]
      exact hmg0
    obtain ⟨fd, hb, hF⟩ := Pl.facts (w := w) KX G hmg c
    exact ⟨K, fd, Pl.sp_law K, KX, hb, fun H a ns hl _ hS => ⟨a, ns, rfl, hS, fun _ => rfl⟩, hF⟩
