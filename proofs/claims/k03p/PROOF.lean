import PyProof.Rows.All
import Wide.All
import OpenK.AllK
import Wide.FinOn
import KE.KExcInit
import KE.KExcMake
import HandS.ForMost
import HandS.ExcInit
import HandS.MakeKwOnly
import HandS.IsInst
import HandS.ExcIs
import HandS.ExcValue
import HandS.ExcOwn
import HandS.ExcField
import HandS.Dict
import HandS.RaiseMore
import PyProof.ReprRoads
import HandS.Steps
import HandS.Codes
import PyProof.InstNe
import KE.KOpsOwn
import HandS.OwnEq
import HandS.MapObj
import HandS.ClsMeth
import PyProof.FactsAll.object
import HandS.Gcd
import HandS.Lambda
import HandS.TryMany
import HandS.WordsExc
import HandS.More
import HandS.Wide
import HandS.Defaults
import PySem.Challenge.RW_betweenfaces_k03_fractions_as_texts
import HandS.Text
import KE.IntTextText
import KE.KIntText
import HandS.FStr
import HandS.StrMore
import HandS.Walk
import PyProof.StrLawsAffix
import HandS.MakeKw
set_option Elab.async false
set_option linter.all false
set_option maxRecDepth 100000
set_option maxHeartbeats 4000000
/-! Own errors, with an own __init__ that stores or none, over any built-in base, made as values, by place and by name; their fields; isinstance. -/
namespace XO
open PySem PySem.Calls PySem.HandSPX PySem.Builtin PySem.Builtin.ObjectAttr
section
variable {M : Model} {A : Around} {E : Value → Shared → Prop} {hp : Heap} {gs : Array GenState} {dr : Drawn} {tk : Nat} {os : OsState}
variable {nA qA : Str} {C NA : Addr} {bsA tl tlB : List Value} {hd ab : Bool} {snA : List Str} {sbA : List Value} {cl : Option Bool} {ddA : Option Addr} {j0 j1 j2 j3 j5 : Option Value} {B newId initId : String}
theorem chk_new (F : ExcBaseFacts B newId initId tlB) (hT : ∀ Y : String, tl.contains (.type Y) = tlB.contains (.type Y)) {us : List Value} {kw : List (Str × Value)} {Q : Unit → Shared → Prop}
    (lC : hp.get? C = some (excClassObj nA qA C NA bsA tl hd snA sbA ab cl ddA j0 j1 j2 j3 j5 newId)) (q : Q () ⟨hp, gs, dr, tk, os⟩) :
    wpAny M A (checkBuiltinCall newId ⟨.ref C :: us, kw⟩) Q E ⟨hp, gs, dr, tk, os⟩ := by
  have c1 : (Value.ref C :: tl).contains (.type B) = true := by rw [List.contains_cons, hT, F.hasB, Bool.or_true]
  have c2 := F.noStar
  simp only [F.newRow, F.newSplit, F.newKind, checkBuiltinCall]
  repeat (first
    | refine wpAny_loadPart_at lC ?_
    | (refine wpAny_isSubtype_exc lC ?_; rw [c1])
    | refine wpAny_staticBase_exc lC ?_
    | refine wpAny_madeBy_exc lC ?_
    | simp only [bne_self_eq_false, Bool.false_eq_true, if_false]
    | wp_step)
  exact q
end
section
variable {prog : Program} {w : World} {A : Around} {E : Value → Shared → Prop} {R : Result → Shared → Prop} {hp : Heap} {gs : Array GenState} {dr : Drawn} {tk : Nat} {os : OsState}
variable {nA qA : Str} {C NA : Addr} {bsA tl tlB : List Value} {hd ab : Bool} {snA : List Str} {sbA : List Value} {cl : Option Bool} {ddA : Option Addr} {j0 j1 j2 j3 j5 : Option Value} {B newId initId : String}
theorem new_kw (F : ExcBaseFacts B newId initId tlB) (hT : ∀ Y : String, tl.contains (.type Y) = tlB.contains (.type Y)) {us : List Value} {kw : List (Str × Value)}
    (lC : hp.get? C = some (excClassObj nA qA C NA bsA tl hd snA sbA ab cl ddA j0 j1 j2 j3 j5 newId))
    (q : R (.ok (.ret (.ref (hp.objs.size + 1)))) ⟨(hp.push (W.kdv_tup us)).push (excO C hp.objs.size), gs, dr, tk, os⟩) (hl : us.length ≤ sizeLine) :
    codeAny (model prog w) A (.builtin newId ⟨.ref C :: us, kw⟩) R ⟨hp, gs, dr, tk, os⟩ := by
  have c0 := F.ends
  have c1 : (Value.ref C :: tl).contains (.type B) = true := by rw [List.contains_cons, hT, F.hasB, Bool.or_true]
  have c2 : (Value.ref C :: tl).contains (.type "AttributeError") = false := by rw [List.contains_cons, hT, F.noAttr]; rfl
  have c3 : (Value.ref C :: tl).contains (.type "NameError") = false := by rw [List.contains_cons, hT, F.noName]; rfl
  refine codeAny_builtinAt F.entry ?_
  unfold Builtin.«BaseException.__new__»
  refine wpAt_bind ?_
  show wpAt _ _ _ (stack >>= _) _ _ _
  refine wpAt_bind (wpAt_stack fun p1 p2 => wpAt_of_wpAny ?_)
  wp_walk
  refine wpAt_of_wpAny ?_
  rw [F.owner]
  repeat (first
    | with_reducible refine wpAny_madeHere_exc F.canon lC ?_
    | with_reducible refine wpAny_loadPart_at lC ?_
    | (with_reducible refine wpAny_isSubtype_exc lC ?_; first | rw [c1] | rw [c2] | rw [c3])
    | wp_step)
  show R _ _
  rw [Heap.size_push]
  exact q
theorem tcall_kw (F : ExcBaseFacts B newId initId tlB) (hT : ∀ Y : String, tl.contains (.type Y) = tlB.contains (.type Y)) {us : List Value} {kw : List (Str × Value)} {fI : Addr} {Q : Fin → Shared → Prop}
    (lC : hp.get? C = some (excClassObj nA qA C NA bsA tl hd snA sbA ab cl ddA j0 j1 j2 j3 j5 newId))
    (li : W.Looks (model prog w) hp (typeLookup (.ref C) "__init__") (some (.ref fI))) (lb : ∀ self, W.Looks (model prog w) hp (bindSpecial (.ref fI) self) (.ref fI, [self])) (hl : us.length ≤ sizeLine)
    (q : codeAny (model prog w) A (.call (.ref fI) ⟨.ref (hp.objs.size + 1) :: us, kw⟩)
      (fun r s' => match r with | .ok (.ret v) => v = .none ∧ Q (.done (.ret (.ref (hp.objs.size + 1)))) s' | .ok _ => False | .error e => E e s')
      ⟨(hp.push (W.kdv_tup us)).push (excO C hp.objs.size), gs, dr, tk, os⟩) :
    wpAny (model prog w) A (Builtin.«type.__call__» ⟨.ref C :: us, kw⟩) Q E ⟨hp, gs, dr, tk, os⟩ := by
  repeat (first
    | with_reducible refine wpAny_loadPart_at lC ?_
    | with_reducible refine wpAny_madeBy_exc lC ?_
    | wp_step)
  refine codeAny_call_builtin_code (Code.quiet_builtin _ F.quiet) (chk_new F hT lC ?_)
  refine new_kw F hT lC ?_ hl
  show wpAny _ _ _ _ _ _
  have kp : ∀ b o, hp.get? b = some o → ((hp.push (W.kdv_tup us)).push (excO C hp.objs.size)).get? b = some o := fun b o e =>
    Heap.get?_push_of_some _ (Heap.get?_push_of_some _ e)
  have lC1 := kp _ _ lC
  have lE : ((hp.push (W.kdv_tup us)).push (excO C hp.objs.size)).get? (hp.objs.size + 1) = some (excO C hp.objs.size) := by heap_get
  have cC : (Value.ref C :: tl).contains (.ref C) = true := by simp
  have i1 := li.keeps kp
  have b1 := (lb (.ref (hp.objs.size + 1))).keeps kp
  unfold isInstance
  repeat (first
    | with_reducible refine wpAny_loadPart_at lE ?_
    | (with_reducible refine wpAny_isSubtype_exc lC1 ?_; rw [cC])
    | wp_step)
  show wpAny _ _ (typeLookup (.ref C) _) _ _ _
  refine i1.at ?_
  refine wpAny_holding (wpAny_bind (b1.at ?_))
  refine wpAny_bind (wpAny_call (codeAny_mono q fun r s' z => ?_))
  rcases r with e | (v | _ | _ | _) <;> first | exact z | exact z.elim | skip
  obtain ⟨rfl, z⟩ := z
  first
    | exact wpAny_pure (wpAny_pure z)
    | (wp_walk; exact z)
/-- C(..), C an own error class with an own __init__ (fI), keywords among the arguments -/
theorem call_kw (F : ExcBaseFacts B newId initId tlB) (hT : ∀ Y : String, tl.contains (.type Y) = tlB.contains (.type Y)) {us : List Value} {kw : List (Str × Value)} {fI : Addr}
    (lC : hp.get? C = some (excClassObj nA qA C NA bsA tl hd snA sbA ab cl ddA j0 j1 j2 j3 j5 newId))
    (li : W.Looks (model prog w) hp (typeLookup (.ref C) "__init__") (some (.ref fI))) (lb : ∀ self, W.Looks (model prog w) hp (bindSpecial (.ref fI) self) (.ref fI, [self])) (hl : us.length ≤ sizeLine)
    (q : codeAny (model prog w) (A.under (.builtin "type.__call__" ⟨.ref C :: us, kw⟩)) (.call (.ref fI) ⟨.ref (hp.objs.size + 1) :: us, kw⟩) (W.InitBack (hp.objs.size + 1) R)
      ⟨(hp.push (W.kdv_tup us)).push (excO C hp.objs.size), gs, dr, tk, os⟩) :
    codeAny (model prog w) A (.call (.ref C) ⟨us, kw⟩) R ⟨hp, gs, dr, tk, os⟩ := by
  have l1 := tc_lookup
  have l2 := tc_bind (.ref C)
  have tC : (⟨hp, gs, dr, tk, os⟩ : Shared).TypeIs (.ref C) "type" := ⟨_, lC, rfl⟩
  refine codeAny_of_tree ?_
  show wpAny _ _ (callAny (.ref C) _) _ _ _
  repeat (any_goals (first
    | assumption
    | with_reducible refine wpAny_loadPart_at lC ?_
    | wp_step))
  refine ⟨rfl, ?_⟩
  refine codeAny_call_builtin_at (Code.quiet_builtin _ (by decide +kernel)) entry_typeCall (wpAny_check_type_call_sub lC (tcall_kw F hT lC li lb hl ?_))
  refine codeAny_mono q fun r s' z => ?_
  rcases r with e | (v | _ | _ | _) <;> exact z
/-- the first store into an error without a dict -/
theorem osa_new {K : W.Frag} {n : Str} {tn : Tok} {v : Value} {x t0 : Addr} (SF : StoreFacts B tlB "object.__setattr__" "object") (X : K.In hp) (hx : hp.get? x = some (excO C t0)) (ov : W.excOver K C tlB = true) (no : W.takerIn K C n = some none) (hh : W.hasDictIn K C = true)
    (q : ∀ h' tk' dx, (∀ b o, b ≠ x → hp.get? b = some o → h'.get? b = some o) → hp.objs.size ≤ dx → dx ≠ x → h'.get? x = some (W.excObj C t0 (some dx) .none) →
      h'.Ns1 dx (fun y => if y = n then some v else none) → R (.ok (.ret .none)) ⟨h', gs, dr, tk', os⟩) :
    codeAny (model prog w) A (.call (.builtin "object.__setattr__") ⟨[.ref x, .str n tn, v], []⟩) R ⟨hp, gs, dr, tk, os⟩ := by
  have xs : x ≠ hp.objs.size := Nat.ne_of_lt (Heap.lt_size hx)
  refine W.osa_openX (s := ⟨hp, gs, dr, tk, os⟩) (od := none) SF X ⟨hx, rfl, rfl, trivial⟩ ov no fun b => ?_
  obtain ⟨cd, hc, hd'⟩ := W.any_some hh
  refine wpAny_bind (wpAny_pure (wpAny_bind (W.instanceDict_exc (s := ⟨hp, gs, dr, tk, os⟩) hx (W.looks_clsIn X hc) hd' ?_)))
  show wpAny _ _ (storeInDict hp.objs.size (.str n tn) n v) _ _ _
  refine store_in_new ?_ fun h' tk' ns' sb => ?_
  · exact ⟨_, #[], _, (Heap.get?_update_ne _ _ _ _ xs.symm).trans (Heap.get?_push_at rfl rfl), rfl, fun e he => absurd he (by simp), fun _ => rfl⟩
  · have hx1 : (hp.push (W.dictOf [] 0)).get? x = some (excO C t0) := Heap.get?_push_of_some _ hx
    refine q h' tk' hp.objs.size (fun b o hb ho => ?_) (Nat.le_refl _) xs.symm ?_ ns'
    · exact (sb.2 b (Nat.ne_of_lt (Heap.lt_size ho))).trans ((Heap.get?_update_ne _ _ _ _ hb).trans (Heap.get?_push_of_some _ ho))
    · exact (sb.2 x xs).trans (Heap.get?_update_self _ hx1 rfl)
/-- a later store -/
theorem osa_more {K : W.Frag} {n : Str} {tn : Tok} {v : Value} {x t0 dx : Addr} {m0 : Str → Option Value} {nl : List Str} (SF : StoreFacts B tlB "object.__setattr__" "object") (X : K.In hp) (hx : hp.get? x = some (W.excObj C t0 (some dx) .none)) (hns : hp.Ns1 dx m0) (hw : Within m0 nl) (hz : nl.length ≤ 1000)
    (ov : W.excOver K C tlB = true) (no : W.takerIn K C n = some none) (hh : W.hasDictIn K C = true)
    (q : ∀ h' tk', (∀ b o, b ≠ dx → hp.get? b = some o → h'.get? b = some o) → h'.Ns1 dx (fun y => if y = n then some v else m0 y) → R (.ok (.ret .none)) ⟨h', gs, dr, tk', os⟩) :
    codeAny (model prog w) A (.call (.builtin "object.__setattr__") ⟨[.ref x, .str n tn, v], []⟩) R ⟨hp, gs, dr, tk, os⟩ := by
  obtain ⟨oD, _, _, hoD, _, _⟩ := hns.count hw
  refine W.osa_openX (s := ⟨hp, gs, dr, tk, os⟩) (od := some oD) SF X ⟨hx, rfl, rfl, hoD⟩ ov no fun b => ?_
  obtain ⟨cd, hc, hd'⟩ := W.any_some hh
  refine wpAny_bind (wpAny_pure (wpAny_bind (wpAny_bind (wpAny_loadPart hx (wpAny_bind ((W.looks_clsIn X hc).here ?_))))))
  rw [hd']
  refine wpAny_pure (a := some dx) ?_
  refine OEX.store_in_old hns hw hz fun h' tk' ns' sb => ?_
  exact q h' tk' (fun b o hb ho => (sb.2 b hb).trans ho) ns'
end
end XO
set_option maxRecDepth 100000
set_option maxHeartbeats 4000000
namespace XO
open PySem PySem.W PySem.Calls PyProof.Rows PySem.HandSPX
/-! ### the texts of the two kinds of __init__ -/
def a1 (n : Str) (p1 p2 : Pos) : Arguments := { posonlyargs := [], args := [{ arg := "self", annotation := none, pos := p1 }, { arg := n, annotation := none, pos := p2 }], vararg := none, kwonlyargs := [], kw_defaults := [], kwarg := none, defaults := [] }
def b1 (n : Str) (q1 q2 q3 q4 : Pos) : List Stmt := [.Assign [.Attribute (.Name "self" q1) n q2] (.Name n q3) q4]
def s1 (n : Str) : Scope := { kind := .function, names := [(PySem.Str.ofString "self", .local), (n, .local)], isGenerator := false, isCoroutine := false, more := [] }
/-- the fields' names -/
def Nm (n : Str) : Prop := n = "reason" ∨ n = "name" ∨ n = "index" ∨ n = "word"
/-- what the written part says of an error class whose __init__ stores one field -/
structure E1 (K : Frag) (mg : Str → Option Value) (x n : Str) (C fI : Addr) (tlB : List Value) (newId : String) : Prop where
  gC : mg x = some (.ref C)
  nm : Nm n
  em : excInitIn K C tlB newId = true
  ov : excOver K C tlB = true
  hd : hasDictIn K C = true
  sa : findIn K (.ref C) "__setattr__" = some (some (.builtin "object.__setattr__"))
  ga : findIn K (.ref C) "__getattribute__" = some (some (.builtin "BaseException.__getattribute__"))
  gg : findIn K (.ref C) "__getattr__" = some none
  no : takerIn K C n = some none
  nf : findIn K (.ref C) n = some none
  iC : findIn K (.ref C) "__init__" = some (some (.ref fI))
  tC : typeIn K (.ref fI) = some (.type "function")
  kC : keepIn K (.ref C) = true
  exC : subIn K (.ref C) (.type "BaseException") = some true
  fn : ∃ (qn : Str) (oc : Value) (od : Option Addr) (doc pm : Value) (an : Option Addr) (cdv ct : Value) (osl : Array (Option Value)) (p1 p2 q1 q2 q3 q4 : Pos),
    K.lookup fI = some ⟨oc, od, .func (fnOf "__init__" qn (a1 n p1 p2) (b1 n q1 q2 q3 q4) (s1 n) .none .none doc pm an cdv ct), osl⟩ ∧ codeIn K cdv qn = true
/-- the two ways to hand one value in -/
def Gv (n : Str) (v : Value) (us : List Value) (kw : List (Str × Value)) : Prop := (us = [v] ∧ kw = []) ∨ (us = [] ∧ kw = [(n, v)])
structure Made1 (h h' : Heap) (n : Str) (e C d : Addr) (v : Value) : Prop where
  keep : ∀ b o, h.get? b = some o → h'.get? b = some o
  new : h.objs.size ≤ e
  obj : ∃ t0, h'.get? e = some (excObj C t0 (some d) .none)
  dbig : h.objs.size ≤ d
  dne : d ≠ e
  ns : h'.Ns1 d (fun y => if y = n then some v else none)
theorem nameC {M : Model} {s : Shared} {nf : Str} {sc : Scope} {L a : Addr} {cd : Value} {m : Str → Option Value} {y : Str} {pos : Pos} {v : Value} {Q : Value → Shared → Prop} {A : Around} {E : Value → Shared → Prop} (hn : s.heap.Ns L m) (hv : m y = some v) (q : Q v s)
    (hk : sc.kind = .function := by rfl) (hl : (envOfC nf sc L a cd).kindOf y = some .local := by rfl) (hd : (y == ("__debug__" : Str)) = false := by decide) :
    wpAny M A (eval (.Name y pos) (envOfC nf sc L a cd)) Q E s := wpAny_Name (wpAny_loadName_local hk hl hn hv q) hd
section
variable {prog : Program} {w : World} {A : Around} {E : Value → Shared → Prop} {R : Result → Shared → Prop} {s : Shared} {K : Frag} {mg : Str → Option Value} {x n : Str} {C fI : Addr} {B newId initId : String} {tlB : List Value}
theorem init1 (T : E1 K mg x n C fI tlB newId) (SF : StoreFacts B tlB "object.__setattr__" "object") {e t0 : Addr} {v : Value} {us : List Value} {kw : List (Str × Value)} (g : Gv n v us kw) (X : K.In s.heap) (hlim : s.heap.NoLimit) (hx : s.heap.get? e = some (excO C t0)) (hr : A.depth < recursionLimit)
    (q : ∀ h' tk d, (∀ b o, b ≠ e → s.heap.get? b = some o → h'.get? b = some o) → s.heap.objs.size ≤ d → d ≠ e → h'.get? e = some (excObj C t0 (some d) .none) → h'.Ns1 d (fun y => if y = n then some v else none) →
      R (.ok (.ret .none)) { s with heap := h', toks := tk }) :
    codeAny (model prog w) A (.call (.ref fI) ⟨.ref e :: us, kw⟩) R s := by
  obtain ⟨qn, oc, od, doc, pm, an, cdv, ct, osl, p1, p2, q1, q2, q3, q4, ho, hcd⟩ := T.fn
  have hb : BindsTo s (fnOf "__init__" qn (a1 n p1 p2) (b1 n q1 q2 q3 q4) (s1 n) .none .none doc pm an cdv ct) ⟨.ref e :: us, kw⟩ [("self", .ref e), (n, v)] := by
    rcases T.nm with rfl | rfl | rfl | rfl <;> rcases g with ⟨rfl, rfl⟩ | ⟨rfl, rfl⟩ <;> exact BindsTo.of_eq (by first | rfl | with_unfolding_all rfl)
  refine Att.call_fn (binds := [("self", .ref e), (n, v)]) X hlim ho hcd hr hb ?_ (fun s₁ IC => ?_) rfl rfl rfl
  · rcases T.nm with rfl | rfl | rfl | rfl <;> first | rfl | decide | with_unfolding_all rfl
  · obtain ⟨h₁, tk₁, rfl⟩ := IC.toInCall.same
    have k : ∀ b o, s.heap.get? b = some o → h₁.get? b = some o := IC.toInCall.keep
    have hn := IC.toInCall.ns
    have X₁ : K.In h₁ := X.keeps k
    have hx₁ := k _ _ hx
    show wpAny _ _ (execs _ _) _ _ _
    refine wpAny_execs_cons (plainObj_wpAny_Assign_Attribute ?_)
    have kn : (envOfC qn (s1 n) s.heap.objs.size fI cdv).kindOf n = some .local := by
      rcases T.nm with rfl | rfl | rfl | rfl <;> first | rfl | with_unfolding_all rfl
    have ks : (envOfC qn (s1 n) s.heap.objs.size fI cdv).kindOf (Str.ofString "self") = some .local := by
      rcases T.nm with rfl | rfl | rfl | rfl <;> first | rfl | with_unfolding_all rfl
    have dn : (n == ("__debug__" : Str)) = false := by
      rcases T.nm with rfl | rfl | rfl | rfl <;> decide
    have vn : bindL (envOfC qn (s1 n) s.heap.objs.size fI cdv).kindOf [(Str.ofString "self", Value.ref e), (n, v)] (fun _ => none) n = some v := by
      rcases T.nm with rfl | rfl | rfl | rfl <;> first | rfl | with_unfolding_all rfl | kernel_rfl
    have vs : bindL (envOfC qn (s1 n) s.heap.objs.size fI cdv).kindOf [(Str.ofString "self", Value.ref e), (n, v)] (fun _ => none) (Str.ofString "self") = some (.ref e) := by
      rcases T.nm with rfl | rfl | rfl | rfl <;> first | rfl | with_unfolding_all rfl | kernel_rfl
    refine nameC (v := v) hn vn (nameC (v := .ref e) hn vs ?_ rfl ks) rfl kn dn
    refine set_plain X₁ (ox := excO C t0) (od := none) ⟨hx₁, rfl, rfl, trivial⟩ T.sa ?_
    refine osa_new SF X₁ hx₁ T.ov T.no T.hd fun h3 tk3 d k3 big ne hx3 hn3 => ?_
    show wpAny _ _ (execs _ _) _ _ _
    have z : s.heap.objs.size < h₁.objs.size := hn.lt
    exact wpAny_execs_nil (q h3 tk3 d (fun b o hb e => k3 b o hb (k b o e)) (Nat.le_of_lt (Nat.lt_of_lt_of_le z big)) ne hx3 hn3)
theorem made1 (F : ExcBaseFacts B newId initId tlB) (T : E1 K mg x n C fI tlB newId) (SF : StoreFacts B tlB "object.__setattr__" "object") {v : Value} {us : List Value} {kw : List (Str × Value)} (g : Gv n v us kw) (X : K.In s.heap) (hlim : s.heap.NoLimit) (hr : A.depth + 1 < recursionLimit)
    (q : ∀ h' tk e d, Made1 s.heap h' n e C d v → R (.ok (.ret (.ref e))) { s with heap := h', toks := tk }) :
    codeAny (model prog w) A (.call (.ref C) ⟨us, kw⟩) R s := by
  obtain ⟨nA, NA, qA, bsA, tl, hd, snA, sbA, ab, cl, ddA, j0, j1, j2, j3, j5, lC, hT⟩ := excInit_of X T.em
  obtain ⟨hp, gs, dr, tk, os⟩ := s
  have k : ∀ b o, hp.get? b = some o → ((hp.push (kdv_tup us)).push (excO C hp.objs.size)).get? b = some o := fun b o e => Heap.get?_push_of_some _ (Heap.get?_push_of_some _ e)
  have hget : ((hp.push (kdv_tup us)).push (excO C hp.objs.size)).get? (hp.objs.size + 1) = some (excO C hp.objs.size) := by heap_get
  have hl : us.length ≤ sizeLine := by
    rw [sizeLine_eq]
    rcases g with ⟨rfl, _⟩ | ⟨rfl, _⟩ <;> simp
  refine call_kw F hT lC (looks_findIn X T.iC) (fun self => bind_fn X self T.tC) hl ?_
  refine init1 (s := ⟨(hp.push (kdv_tup us)).push (excO C hp.objs.size), gs, dr, tk, os⟩) T SF g (X.keeps k) (hlim.keeps k) hget hr fun h' tk' d k' dn ne hx hns => ?_
  have old : ∀ b o, hp.get? b = some o → h'.get? b = some o := fun b o e => k' b o (Nat.ne_of_lt (Nat.lt_succ_of_lt (Heap.lt_size e))) (k b o e)
  have z : hp.objs.size ≤ d := by
    have y : ((hp.push (kdv_tup us)).push (excO C hp.objs.size)).objs.size ≤ d := dn
    rw [Heap.size_push, Heap.size_push] at y
    omega
  exact ⟨rfl, q h' tk' (hp.objs.size + 1) d ⟨old, Nat.le_succ _, ⟨_, hx⟩, z, ne, hns⟩⟩
end
end XO
set_option maxRecDepth 100000
set_option maxHeartbeats 4000000
namespace XO
open PySem PySem.W PySem.Calls PyProof.Rows PySem.HandSPX
/-! ### the error with two fields -/
def a2 (p1 p2 p3 : Pos) : Arguments := { posonlyargs := [], args := [{ arg := "self", annotation := none, pos := p1 }, { arg := "line", annotation := none, pos := p2 }, { arg := "word", annotation := none, pos := p3 }], vararg := none, kwonlyargs := [], kw_defaults := [], kwarg := none, defaults := [] }
def b2 (q1 q2 q3 q4 r1 r2 r3 r4 : Pos) : List Stmt := [.Assign [.Attribute (.Name "self" q1) "line" q2] (.Name "line" q3) q4, .Assign [.Attribute (.Name "self" r1) "word" r2] (.Name "word" r3) r4]
def s2 : Scope := { kind := .function, names := [(PySem.Str.ofString "self", .local), (PySem.Str.ofString "line", .local), (PySem.Str.ofString "word", .local)], isGenerator := false, isCoroutine := false, more := [] }
structure E2 (K : Frag) (mg : Str → Option Value) (x : Str) (C fI : Addr) (tlB : List Value) (newId : String) : Prop where
  gC : mg x = some (.ref C)
  em : excInitIn K C tlB newId = true
  ov : excOver K C tlB = true
  hd : hasDictIn K C = true
  sa : findIn K (.ref C) "__setattr__" = some (some (.builtin "object.__setattr__"))
  ga : findIn K (.ref C) "__getattribute__" = some (some (.builtin "BaseException.__getattribute__"))
  gg : findIn K (.ref C) "__getattr__" = some none
  noL : takerIn K C "line" = some none
  noW : takerIn K C "word" = some none
  nfL : findIn K (.ref C) "line" = some none
  nfW : findIn K (.ref C) "word" = some none
  iC : findIn K (.ref C) "__init__" = some (some (.ref fI))
  tC : typeIn K (.ref fI) = some (.type "function")
  kC : keepIn K (.ref C) = true
  exC : subIn K (.ref C) (.type "BaseException") = some true
  fn : ∃ (qn : Str) (oc : Value) (od : Option Addr) (doc pm : Value) (an : Option Addr) (cdv ct : Value) (osl : Array (Option Value)) (p1 p2 p3 q1 q2 q3 q4 r1 r2 r3 r4 : Pos),
    K.lookup fI = some ⟨oc, od, .func (fnOf "__init__" qn (a2 p1 p2 p3) (b2 q1 q2 q3 q4 r1 r2 r3 r4) s2 .none .none doc pm an cdv ct), osl⟩ ∧ codeIn K cdv qn = true
def Gv2 (v u : Value) (us : List Value) (kw : List (Str × Value)) : Prop := (us = [v, u] ∧ kw = []) ∨ (us = [] ∧ kw = [(Str.ofString "word", u), (Str.ofString "line", v)])
structure Made2 (h h' : Heap) (e C d : Addr) (v u : Value) : Prop where
  keep : ∀ b o, h.get? b = some o → h'.get? b = some o
  new : h.objs.size ≤ e
  obj : ∃ t0, h'.get? e = some (excObj C t0 (some d) .none)
  dbig : h.objs.size ≤ d
  dne : d ≠ e
  ns : h'.Ns1 d (fun y => if y = "word" then some u else if y = "line" then some v else none)
section
variable {prog : Program} {w : World} {A : Around} {E : Value → Shared → Prop} {R : Result → Shared → Prop} {s : Shared} {K : Frag} {mg : Str → Option Value} {x n : Str} {C fI : Addr} {B newId initId : String} {tlB : List Value}
theorem init2 (T : E2 K mg x C fI tlB newId) (SF : StoreFacts B tlB "object.__setattr__" "object") {e t0 : Addr} {v u : Value} {us : List Value} {kw : List (Str × Value)} (g : Gv2 v u us kw) (X : K.In s.heap) (hlim : s.heap.NoLimit) (hx : s.heap.get? e = some (excO C t0)) (hnx : K.lookup e = none) (hr : A.depth < recursionLimit)
    (q : ∀ h' tk d, (∀ b o, b ≠ e → s.heap.get? b = some o → h'.get? b = some o) → s.heap.objs.size ≤ d → d ≠ e → h'.get? e = some (excObj C t0 (some d) .none) → h'.Ns1 d (fun y => if y = "word" then some u else if y = "line" then some v else none) →
      R (.ok (.ret .none)) { s with heap := h', toks := tk }) :
    codeAny (model prog w) A (.call (.ref fI) ⟨.ref e :: us, kw⟩) R s := by
  obtain ⟨qn, oc, od, doc, pm, an, cdv, ct, osl, p1, p2, p3, q1, q2, q3, q4, r1, r2, r3, r4, ho, hcd⟩ := T.fn
  have hb : BindsTo s (fnOf "__init__" qn (a2 p1 p2 p3) (b2 q1 q2 q3 q4 r1 r2 r3 r4) s2 .none .none doc pm an cdv ct) ⟨.ref e :: us, kw⟩ [("self", .ref e), ("line", v), ("word", u)] := by
    rcases g with ⟨rfl, rfl⟩ | ⟨rfl, rfl⟩ <;> exact BindsTo.of_eq (by first | rfl | with_unfolding_all rfl)
  refine Att.call_fn (binds := [("self", .ref e), ("line", v), ("word", u)]) X hlim ho hcd hr hb (by first | rfl | decide | with_unfolding_all rfl) (fun s₁ IC => ?_) rfl rfl rfl
  obtain ⟨h₁, tk₁, rfl⟩ := IC.toInCall.same
  have k : ∀ b o, s.heap.get? b = some o → h₁.get? b = some o := IC.toInCall.keep
  have hn := IC.toInCall.ns
  have X₁ : K.In h₁ := X.keeps k
  have hx₁ := k _ _ hx
  have z : s.heap.objs.size < h₁.objs.size := hn.lt
  have ze : s.heap.objs.size ≠ e := Nat.ne_of_gt (Heap.lt_size hx)
  show wpAny _ _ (execs _ _) _ _ _
  refine wpAny_execs_cons (plainObj_wpAny_Assign_Attribute ?_)
  refine nameC (v := v) hn (by first | rfl | with_unfolding_all rfl | kernel_rfl) (nameC (v := .ref e) hn (by first | rfl | with_unfolding_all rfl | kernel_rfl) ?_)
  refine set_plain X₁ (ox := excO C t0) (od := none) ⟨hx₁, rfl, rfl, trivial⟩ T.sa ?_
  refine osa_new SF X₁ hx₁ T.ov T.noL T.hd fun h3 tk3 d k3 big ne hx3 hn3 => ?_
  have hn' : h3.Ns s.heap.objs.size _ := hn.at fun o e' => k3 _ o ze e'
  show wpAny _ _ (execs _ _) _ _ _
  refine wpAny_execs_cons (plainObj_wpAny_Assign_Attribute ?_)
  refine nameC (v := u) hn' (by first | rfl | with_unfolding_all rfl | kernel_rfl) (nameC (v := .ref e) hn' (by first | rfl | with_unfolding_all rfl | kernel_rfl) ?_)
  obtain ⟨oD, _, _, hoD, _, _⟩ := hn3.count (Within.cons "line" v Within.nil)
  have X₃ : K.In h3 := fun b o e' => k3 b o (fun z' => by rw [z', hnx] at e'; cases e') (k b o (X b o e'))
  refine set_plain X₃ (ox := excObj C t0 (some d) .none) (od := some oD) ⟨hx3, rfl, rfl, hoD⟩ T.sa ?_
  refine osa_more SF X₃ hx3 hn3 (Within.cons "line" v Within.nil) (by decide) T.ov T.noW T.hd fun h4 tk4 k4 hn4 => ?_
  show wpAny _ _ (execs _ _) _ _ _
  refine wpAny_execs_nil (q h4 tk4 d (fun b o hb e' => k4 b o (Nat.ne_of_lt (Nat.lt_of_lt_of_le (Heap.lt_size (k b o e')) big)) (k3 b o hb (k b o e'))) (Nat.le_of_lt (Nat.lt_of_lt_of_le z big)) ne (k4 e _ ne.symm hx3) hn4)
theorem made2 (F : ExcBaseFacts B newId initId tlB) (T : E2 K mg x C fI tlB newId) (SF : StoreFacts B tlB "object.__setattr__" "object") {v u : Value} {us : List Value} {kw : List (Str × Value)} (g : Gv2 v u us kw) (X : K.In s.heap) (hlim : s.heap.NoLimit) (hr : A.depth + 1 < recursionLimit)
    (q : ∀ h' tk e d, Made2 s.heap h' e C d v u → R (.ok (.ret (.ref e))) { s with heap := h', toks := tk }) :
    codeAny (model prog w) A (.call (.ref C) ⟨us, kw⟩) R s := by
  obtain ⟨nA, NA, qA, bsA, tl, hd, snA, sbA, ab, cl, ddA, j0, j1, j2, j3, j5, lC, hT⟩ := excInit_of X T.em
  obtain ⟨hp, gs, dr, tk, os⟩ := s
  have k : ∀ b o, hp.get? b = some o → ((hp.push (kdv_tup us)).push (excO C hp.objs.size)).get? b = some o := fun b o e => Heap.get?_push_of_some _ (Heap.get?_push_of_some _ e)
  have hget : ((hp.push (kdv_tup us)).push (excO C hp.objs.size)).get? (hp.objs.size + 1) = some (excO C hp.objs.size) := by heap_get
  have hl : us.length ≤ sizeLine := by
    rw [sizeLine_eq]
    rcases g with ⟨rfl, _⟩ | ⟨rfl, _⟩ <;> simp
  have hnx : K.lookup (hp.objs.size + 1) = none := by
    cases e : K.lookup (hp.objs.size + 1) with
    | none => rfl
    | some o =>
      have y : hp.get? (hp.objs.size + 1) = some o := X _ _ e
      exact absurd (Nat.lt_of_succ_lt (Heap.lt_size y)) (Nat.lt_irrefl _)
  refine call_kw F hT lC (looks_findIn X T.iC) (fun self => bind_fn X self T.tC) hl ?_
  refine init2 (s := ⟨(hp.push (kdv_tup us)).push (excO C hp.objs.size), gs, dr, tk, os⟩) T SF g (X.keeps k) (hlim.keeps k) hget hnx hr fun h' tk' d k' dn ne hx hns => ?_
  have old : ∀ b o, hp.get? b = some o → h'.get? b = some o := fun b o e => k' b o (Nat.ne_of_lt (Nat.lt_succ_of_lt (Heap.lt_size e))) (k b o e)
  have z : hp.objs.size ≤ d := by
    have y : ((hp.push (kdv_tup us)).push (excO C hp.objs.size)).objs.size ≤ d := dn
    rw [Heap.size_push, Heap.size_push] at y
    omega
  exact ⟨rfl, q h' tk' (hp.objs.size + 1) d ⟨old, Nat.le_succ _, ⟨_, hx⟩, z, ne, hns⟩⟩
end
/-! ### isinstance: what an error's class says -/
structure EI (K : Frag) (D : Addr) : Prop where
  ga : findIn K (.ref D) "__getattribute__" = some (some (.builtin "BaseException.__getattribute__"))
  gg : findIn K (.ref D) "__getattr__" = some none
  ex : subIn K (.ref D) (.type "BaseException") = some true
  hd : hasDictIn K D = true
  cl : findIn K (.ref D) "__class__" = some (some (.builtin "object.__class__"))
  sp : specialIn K (.builtin "object.__class__") "__get__" = some (some (.builtin "getset_descriptor.__get__"))
  tk : takesIn K (.builtin "object.__class__") = some true
  mr : mroIn K D (.type "object") = some true
section
variable {prog : Program} {w : World} {A : Around} {E : Value → Shared → Prop} {s : Shared} {K : Frag} {x D : Addr} {ox : Obj} {od : Option Obj}
theorem EI.find (T : EI K D) : findObj K D od "__class__" = some (.bind (.builtin "getset_descriptor.__get__") (.builtin "object.__class__")) := by
  obtain ⟨cd, hc, _⟩ := any_some T.hd
  unfold findObj
  rw [hc, Option.bind_some, T.cl, Option.bind_some]
  simp [T.sp, T.tk]
/-- object.__class__ by the exceptions' own __getattribute__ -/
theorem EI.told (T : EI K D) {Q : Value → Shared → Prop} {t : Tok} (X : K.In s.heap) (I : InstAt s.heap x ox D od) (q : Q (.ref D) s) : wpAny (model prog w) A (call (.builtin "BaseException.__getattribute__") [.ref x, .str "__class__" t]) Q E s := by
  have ty := I.type (M := model prog w)
  have err : Looks (model prog w) s.heap (isInstance (.ref x) (.type "BaseException")) true := ty.andThen (looks_subIn X T.ex)
  have fd := looks_find (M := model prog w) X I T.find
  have S := PySem.F.excAttr_ValueError.ga
  obtain ⟨hp, gs, dr, tk, os⟩ := s
  refine wpAny_call (codeAny_call_builtin S.plain PySem.F.entry_bexc_ga ?_)
  refine check_slot (i := "BaseException.__getattribute__") (owner := "BaseException") (n := "__getattribute__") (self := .ref x) (rest := [.str "__class__" t]) (kw := []) (by decide +kernel) (by decide +kernel) err (PySem.F.args_bexc_ga (.ref x) (.str "__class__" t)) ?_
  unfold Builtin.«object.__getattribute__»
  have two : slotArgs "__getattribute__" 1 ⟨[.ref x, .str "__class__" t], []⟩ = pure (Value.ref x, [Value.str "__class__" t]) := by simp only [slotArgs]; rfl
  refine wpAny_bind (wpAny_of_eq two ?_)
  refine wpAny_bind (wpAny_pure ?_)
  refine wpAny_bind (ty.at ?_)
  refine wpAny_bind (fd.at ?_)
  have get : wpAny (model prog w) (A.under (.builtin "BaseException.__getattribute__" ⟨[.ref x, .str "__class__" t], []⟩)) (call (.builtin "getset_descriptor.__get__") [.builtin "object.__class__", .ref x, .ref D]) (fun v s' => v = .ref D ∧ s' = ⟨hp, gs, dr, tk, os⟩) E ⟨hp, gs, dr, tk, os⟩ :=
    wpAny_call (class_get (s := ⟨hp, gs, dr, tk, os⟩) (ox := ox) (od := od) X I T.mr ⟨rfl, rfl⟩)
  show wpAny _ _ (holding [Value.builtin "object.__class__"] (call (.builtin "getset_descriptor.__get__") _) >>= ret) _ _ _
  refine wpAny_bind (wpAny_holding (wpAny_mono get (fun v s' z => ?_) fun _ _ z => z))
  obtain ⟨rfl, rfl⟩ := z
  exact wpAny_pure q
theorem EI.ask (T : EI K D) {Q : Option Value → Shared → Prop} (X : K.In s.heap) (I : InstAt s.heap x ox D od) (q : Q (some (.ref D)) { s with toks := s.toks + 1 }) : wpAny (model prog w) A (getAttr? (.ref x) "__class__") Q E s := by
  obtain ⟨hp, gs, dr, t, os⟩ := s
  have ty := I.type (M := model prog w)
  have ga := looks_findIn (M := model prog w) X T.ga
  have gg := looks_findIn (M := model prog w) X T.gg
  have notObj : (Value.builtin "BaseException.__getattribute__" == Value.builtin "object.__getattribute__") = false := by decide +kernel
  have heapD : onTheHeap (Value.ref D) = true := rfl
  have heapB : onTheHeap (Value.builtin "BaseException.__getattribute__") = false := rfl
  have no1 : (onTheHeap (Value.ref D) && (Value.builtin "BaseException.__getattribute__" == Value.builtin "object.__getattribute__")) = false := by rw [notObj, Bool.and_false]
  have no2 : ∀ b : Bool, (b && onTheHeap (Value.builtin "BaseException.__getattribute__")) = false := fun b => by rw [heapB, Bool.and_false]
  unfold getAttr? getAttrBy? getAttrBy
  refine wpAny_bind (wpAny_mkText (wpAny_bind (wpAny_attempt (wpAny_holding (wpAny_bind (ty.at (wpAny_bind (ga.at ?_))))))))
  show wpAny _ _ (ite ((onTheHeap (Value.ref D) && (Value.builtin "BaseException.__getattribute__" == Value.builtin "object.__getattribute__")) = true) _ _) _ _ _
  rw [no1]
  simp only [Bool.false_eq_true, if_false]
  unfold getAttrByItsOwn hookBefore
  rw [if_pos heapD]
  refine wpAny_bind (gg.at (wpAny_bind (wpAny_attempt (wpAny_holding ?_))))
  unfold callGetattribute
  rw [no2]
  simp only [Bool.false_eq_true, if_false]
  unfold boundAndCalled
  rw [PySem.F.excAttr_ValueError.ga.bind (.ref x)]
  refine wpAny_bind (wpAny_pure ?_)
  refine EI.told (s := ⟨hp, gs, dr, t + 1, os⟩) T X I ?_
  show wpAny _ _ (handedOut (.ref D)) _ _ _
  rw [handedOut_of (v := .ref D) rfl]
  first
    | exact wpAny_pure q
    | exact wpAny_pure (wpAny_pure q)
    | exact wpAny_pure (wpAny_bind (wpAny_pure (wpAny_pure q)))
theorem EI.kit (T : EI K D) : KitX K (.ref x) (.ref D) (fun h => ∃ ox od, InstAt h x ox D od) where
  ty := fun _ _ _ ⟨_, _, I⟩ => I.type
  it := fun _ _ X _ => by
    obtain ⟨cdD, hc, _⟩ := any_some T.hd
    unfold clsIn at hc
    split at hc
    · rename_i c' d' cd' sl' ho
      intro A' Q' E' s' k q
      unfold isType loadHead
      exact wpAny_bind (wpAny_loadPart (k _ _ (X _ _ ho)) (wpAny_pure q))
    · cases hc
  ne := fun h tp dd its n sl X htp => by
    obtain ⟨cdD, hc, _⟩ := any_some T.hd
    refine Bool.eq_false_iff.mpr fun q => ?_
    have e : D = tp := Value.ref.inj (beq_iff_eq.mp q)
    subst e
    unfold clsIn at hc
    split at hc
    · rename_i c' d' cd' sl' ho
      have z := (X _ _ ho).symm.trans htp
      cases z
    · cases hc
  ca := fun X ⟨_, _, I⟩ k => T.ask X I k
end
end XO
set_option maxRecDepth 100000
set_option maxHeartbeats 4000000
namespace XO
open PySem PySem.Spec PyProof.Rows L2
section
variable {X : Cx} {x n : Str} {C fI : Addr} {B newId initId : String} {tlB : List Value} {e : Expr} {te : TE} {kws : List Keyword} {tk : TA} {p pos : Pos}
/-- two new objects at once -/
theorem laid2 {pins : List (Addr × Obj)} {σ : L2.St} {H : Hp} {s : Shared} {h' : Heap} {d a : Addr} {u o : HO} {t' : Nat} (I : Inv X pins σ H s) (k : ∀ b w, s.heap.get? b = some w → h'.get? b = some w) (hd : s.heap.objs.size ≤ d) (ha : s.heap.objs.size ≤ a) (ne : d ≠ a)
    (ou : ∀ G : Heap, (∀ w, h'.get? d = some w → G.get? d = some w) → ObjOk X.prog X.w (upd H d u) G d u) (oo : ObjOk X.prog X.w (upd (upd H d u) a o) h' a o) : Inv X pins σ (upd (upd H d u) a o) { s with heap := h', toks := t' } := by
  obtain ⟨G, g1, g2⟩ := restrict h' fun b => decide (b ≠ a)
  have gk : ∀ b, b ≠ a → G.get? b = h'.get? b := fun b hb => g1 b (decide_eq_true hb)
  have ga : G.get? a = none := g2 a (by simp)
  have lt : ∀ b w, s.heap.get? b = some w → b ≠ a := fun b w q => Nat.ne_of_lt (Nat.lt_of_lt_of_le (Heap.lt_size q) ha)
  have J : Inv X pins σ (upd H d u) ⟨G, s.gens, s.drawn, t', s.os⟩ := I.laid (t' := t') (fun b w q => (gk b (lt b w q)).trans (k b w q)) hd (ou G fun w q => (gk d ne).trans q)
  have na : (upd H d u) a = none := by
    rw [upd_ne ne.symm]
    exact I.hok.fresh ha
  exact J.laidN (t' := t') (fun b w q => by
    by_cases hb : b = a
    · have z : G.get? b = some w := q
      rw [hb, ga] at z
      cases z
    · exact (gk b hb).symm.trans q) ga na oo
theorem made1_inv {pins : List (Addr × Obj)} {σ : L2.St} {H : Hp} {s : Shared} {h' : Heap} {d a : Addr} {v : V} {u : Value} {t' : Nat} (I : Inv X pins σ H s) (r : RelV v u) (M : Made1 s.heap h' n a C d u) :
    Inv X pins σ (upd (upd H d (exd d [(n, v)])) a (exo a C (some d))) { s with heap := h', toks := t' } := by
  obtain ⟨t0, ho⟩ := M.obj
  exact laid2 I M.keep M.dbig M.new M.dne (fun G g => exd_ok (M.ns.at fun w q => g w q) (relO_put (fs := []) r fun _ => True.intro)) (exo_ok ho)
theorem made2_inv {pins : List (Addr × Obj)} {σ : L2.St} {H : Hp} {s : Shared} {h' : Heap} {d a : Addr} {v y : V} {u z : Value} {t' : Nat} (I : Inv X pins σ H s) (r : RelV v u) (ry : RelV y z) (M : Made2 s.heap h' a C d u z) :
    Inv X pins σ (upd (upd H d (exd d [("word", y), ("line", v)])) a (exo a C (some d))) { s with heap := h', toks := t' } := by
  obtain ⟨t0, ho⟩ := M.obj
  exact laid2 I M.keep M.dbig M.new M.dne (fun G g => exd_ok (M.ns.at fun w q => g w q) (relO_put (fs := [("line", v)]) ry (relO_put (fs := []) r fun _ => True.intro))) (exo_ok ho)
/-- C(e) or C(n=e), the error's field named n -/
def tE1 (C : Addr) (n : Str) (ta : TA) : TE := fun σ H Q => ta σ H fun vs H1 => ∃ v, vs = [v] ∧ ∀ d a, H1 d = none → H1 a = none → d ≠ a → Q (.ref a) (upd (upd H1 d (exd d [(n, v)])) a (exo a C (some d)))
/-- C(line, word) -/
def tE2 (C : Addr) (ta : TA) : TE := fun σ H Q => ta σ H fun vs H1 => ∃ v u, vs = [v, u] ∧ ∀ d a, H1 d = none → H1 a = none → d ≠ a → Q (.ref a) (upd (upd H1 d (exd d [("word", u), ("line", v)])) a (exo a C (some d)))
/-- C(word=.., line=..) -/
def tE2k (C : Addr) (ta : TA) : TE := fun σ H Q => ta σ H fun vs H1 => ∃ v u, vs = [u, v] ∧ ∀ d a, H1 d = none → H1 a = none → d ≠ a → Q (.ref a) (upd (upd H1 d (exd d [("word", u), ("line", v)])) a (exo a C (some d)))
/-- C(), an error without fields -/
def tE0 (C : Addr) : TE := fun _ H Q => ∀ a, H a = none → Q (.ref a) (upd H a (exo a C none))
theorem pe_e1 {ta : TA} (F : ExcBaseFacts B newId initId tlB) (SF : StoreFacts B tlB "object.__setattr__" "object") (T : E1 X.K X.mg x n C fI tlB newId) (hr : Room 0 X.A) (hg : Gl X x) (ha : PA X (e :: []) ta)
    (hdb : (x == ("__debug__" : Str)) = false := by decide) (hs : starEach (e :: []) X.env = (false, eval e X.env) :: starEach [] X.env := by rfl) (hpl : (backTo pos (starEach [] X.env)).any (·.1) = false := by rfl) :
    PE X (.Call (.Name x p) [e] [] pos) (tE1 C n ta) := by
  refine ⟨fun pins s σ H Q I h => ?_⟩
  refine wpAny_Call_Name_kw (ld_glob I hg T.gC ?_ hdb)
  refine PySem.W.callWith_K (h₀ := X.base) I.ok.mod.kin T.kC (thn (ha.run pos pins s σ H _ I h) fun us s1 hh => ?_) hs hpl
  obtain ⟨vs, H1, I1, r1, v, rfl, q1⟩ := hh
  refine ⟨I1.kIn, ?_⟩
  obtain ⟨u, rfl, ru⟩ := vals1 r1
  show wpAny _ _ (call (.ref C) [u]) _ _ _
  refine wpAny_call (made1 F T SF (.inl ⟨rfl, rfl⟩) I1.kIn I1.nolimit (by have := hr.dp; omega) fun h' tk' a d M => ?_)
  exact ⟨.ref a, _, made1_inv I1 ru M, rfl, q1 d a (I1.hok.fresh M.dbig) (I1.hok.fresh M.new) M.dne⟩
theorem pe_e1k {ta : TA} (F : ExcBaseFacts B newId initId tlB) (SF : StoreFacts B tlB "object.__setattr__" "object") (T : E1 X.K X.mg x n C fI tlB newId) (hr : Room 0 X.A) (hg : Gl X x) (hk : PK X kws ta)
    (hks : (backToKw pos (keywordEach kws X.env)).filterMap (·.1) = [n] := by rfl) (hall : (backToKw pos (keywordEach kws X.env)).all (·.1.isSome) = true := by rfl) (hdb : (x == ("__debug__" : Str)) = false := by decide)
    (hpl : ((backTo pos (starEach [] X.env)).any (·.1) || (backToKw pos (keywordEach kws X.env)).any (·.1.isNone)) = false := by rfl) :
    PE X (.Call (.Name x p) [] kws pos) (tE1 C n ta) := by
  refine ⟨fun pins s σ H Q I h => ?_⟩
  refine wpAny_Call_Name_kw (ld_glob I hg T.gC ?_ hdb)
  refine PySem.W.callWith_KW0 (h₀ := X.base) I.ok.mod.kin T.kC hall ?_ hpl
  refine thn (hk.run pos pins s σ H _ I h) fun ws s2 ⟨vs, H1, I1, r1, v, e', q1⟩ => ⟨I1.kIn, ?_⟩
  subst e'
  obtain ⟨u, rfl, ru⟩ := vals1 r1
  rw [hks]
  show wpAny _ _ (call (.ref C) [] [(n, u)]) _ _ _
  refine wpAny_call (made1 F T SF (.inr ⟨rfl, rfl⟩) I1.kIn I1.nolimit (by have := hr.dp; omega) fun h' tk' a d M => ?_)
  exact ⟨.ref a, _, made1_inv I1 ru M, rfl, q1 d a (I1.hok.fresh M.dbig) (I1.hok.fresh M.new) M.dne⟩
theorem pe_e2 {ta : TA} {f : Expr} (F : ExcBaseFacts B newId initId tlB) (SF : StoreFacts B tlB "object.__setattr__" "object") (T : E2 X.K X.mg x C fI tlB newId) (hr : Room 0 X.A) (hg : Gl X x) (ha : PA X (e :: [f]) ta)
    (hdb : (x == ("__debug__" : Str)) = false := by decide) (hs : starEach (e :: [f]) X.env = (false, eval e X.env) :: starEach [f] X.env := by rfl) (hpl : (backTo pos (starEach [f] X.env)).any (·.1) = false := by rfl) :
    PE X (.Call (.Name x p) [e, f] [] pos) (tE2 C ta) := by
  refine ⟨fun pins s σ H Q I h => ?_⟩
  refine wpAny_Call_Name_kw (ld_glob I hg T.gC ?_ hdb)
  refine PySem.W.callWith_K (h₀ := X.base) I.ok.mod.kin T.kC (thn (ha.run pos pins s σ H _ I h) fun us s1 hh => ?_) hs hpl
  obtain ⟨vs, H1, I1, r1, v, y, rfl, q1⟩ := hh
  refine ⟨I1.kIn, ?_⟩
  obtain ⟨u, z, rfl, ru, rz⟩ := vals2 r1
  show wpAny _ _ (call (.ref C) [u, z]) _ _ _
  refine wpAny_call (made2 F T SF (.inl ⟨rfl, rfl⟩) I1.kIn I1.nolimit (by have := hr.dp; omega) fun h' tk' a d M => ?_)
  exact ⟨.ref a, _, made2_inv I1 ru rz M, rfl, q1 d a (I1.hok.fresh M.dbig) (I1.hok.fresh M.new) M.dne⟩
theorem pe_e2k {ta : TA} (F : ExcBaseFacts B newId initId tlB) (SF : StoreFacts B tlB "object.__setattr__" "object") (T : E2 X.K X.mg x C fI tlB newId) (hr : Room 0 X.A) (hg : Gl X x) (hk : PK X kws ta)
    (hks : (backToKw pos (keywordEach kws X.env)).filterMap (·.1) = [PySem.Str.ofString "word", PySem.Str.ofString "line"] := by rfl) (hall : (backToKw pos (keywordEach kws X.env)).all (·.1.isSome) = true := by rfl) (hdb : (x == ("__debug__" : Str)) = false := by decide)
    (hpl : ((backTo pos (starEach [] X.env)).any (·.1) || (backToKw pos (keywordEach kws X.env)).any (·.1.isNone)) = false := by rfl) :
    PE X (.Call (.Name x p) [] kws pos) (tE2k C ta) := by
  refine ⟨fun pins s σ H Q I h => ?_⟩
  refine wpAny_Call_Name_kw (ld_glob I hg T.gC ?_ hdb)
  refine PySem.W.callWith_KW0 (h₀ := X.base) I.ok.mod.kin T.kC hall ?_ hpl
  refine thn (hk.run pos pins s σ H _ I h) fun ws s2 ⟨vs, H1, I1, r1, v, y, e', q1⟩ => ⟨I1.kIn, ?_⟩
  subst e'
  obtain ⟨z, u, rfl, rz, ru⟩ := vals2 r1
  rw [hks]
  show wpAny _ _ (call (.ref C) [] [(PySem.Str.ofString "word", z), (PySem.Str.ofString "line", u)]) _ _ _
  refine wpAny_call (made2 F T SF (.inr ⟨rfl, rfl⟩) I1.kIn I1.nolimit (by have := hr.dp; omega) fun h' tk' a d M => ?_)
  exact ⟨.ref a, _, made2_inv I1 ru rz M, rfl, q1 d a (I1.hok.fresh M.dbig) (I1.hok.fresh M.new) M.dne⟩
theorem pe_e0 (F : ExcBaseFacts B newId initId tlB) (q : PySem.W.excIn X.K C tlB newId = true) (gC : X.mg x = some (.ref C)) (kC : PySem.W.keepIn X.K (.ref C) = true) (hg : Gl X x) (hdb : (x == ("__debug__" : Str)) = false := by decide) :
    PE X (.Call (.Name x p) [] [] pos) (tE0 C) := by
  refine ⟨fun pins s σ H Q I h => ?_⟩
  refine wpAny_Call_Name_kw (ld_glob I hg gC ?_ hdb)
  refine PySem.W.callWith_K0 I.kIn kC ?_
  show wpAny _ _ (call (.ref C) []) _ _ _
  obtain ⟨bm, N, nA, qA, bsA, hdA, snA, sbA, ab, cl, dd, j0, j1, j2, j3, j5, mN, hC, hN, hni, T⟩ := exc_obj I.kIn q
  refine wpAny_call_exc_subT F T hC hN hni (fun h' a hm => ?_) (by show 0 ≤ sizeLine; rw [sizeLine_eq]; omega)
  have hn : H a = none := I.hok.gone hm.new
  obtain ⟨t, ht, _, _⟩ := hm.there
  exact ⟨.ref a, upd H a (exo a C none), I.laidN hm.keeps hm.new hn (exo_ok ht), rfl, h a hn⟩
end
/-! ### a field read -/
structure EF (K : PySem.W.Frag) (C : Addr) (f : Str) : Prop where
  ga : PySem.W.findIn K (.ref C) "__getattribute__" = some (some (.builtin "BaseException.__getattribute__"))
  gg : PySem.W.findIn K (.ref C) "__getattr__" = some none
  ex : PySem.W.subIn K (.ref C) (.type "BaseException") = some true
  hd : PySem.W.hasDictIn K C = true
  no : PySem.W.findIn K (.ref C) f = some none
theorem E1.ef {K : PySem.W.Frag} {mg : Str → Option Value} {x n : Str} {C fI : Addr} {tlB : List Value} {newId : String} (T : E1 K mg x n C fI tlB newId) : EF K C n := ⟨T.ga, T.gg, T.exC, T.hd, T.nf⟩
def tEf (K : PySem.W.Frag) (te : TE) (f : Str) : TE := fun σ H Q => te σ H fun y H1 => ∃ (a C d : Addr) (fs : List (Str × V)) (v : V), y = .ref a ∧ H1 a = some (exo a C (some d)) ∧ H1 d = some (exd d fs) ∧ EF K C f ∧ fs.lookup f = some v ∧ Q v H1
section
variable {X : Cx} {e : Expr} {te : TE} {pos : Pos} {f : Str}
theorem pe_ef (he : PE X e te) (hb : attributeBase e f X.env (eval e X.env) = eval e X.env := by rfl) : PE X (.Attribute e f pos) (tEf X.K te f) := by
  refine ⟨fun pins s σ H Q I h => ?_⟩
  refine attr_of hb (thn (he.run pins s σ H _ I h) fun u s1 hh => ?_)
  obtain ⟨y, H1, I1, ry, a, C, d, fs, v, rfl, ea, ed, T, l, q⟩ := hh
  obtain rfl : u = Value.ref a := ry
  obtain ⟨t1, ho⟩ := exo_at I1.hok ea
  obtain ⟨mA, hns, rel⟩ := exd_at I1.hok ed
  obtain ⟨od, hod, hl⟩ := lookIn_ns hns
  obtain ⟨z, hz, rz⟩ := RelO.some_of (v := v) (o := mA f) (by rw [← l]; exact rel f)
  have J : PySem.W.InstAt s1.heap a ({ cls := .ref C, dict := some d, data := .fields #[.ref t1, .none, .none, .none, .bool false, .none] } : Obj) C (some od) := ⟨ho, rfl, rfl, hod⟩
  exact HandSPX.exc_get I1.kIn J T.ga T.gg T.ex (PySem.W.findObj_own T.hd T.no rfl (by rw [hl, hz])) (handed_of rz) ⟨v, H1, I1.tok _, rz, q⟩
/-- isinstance(a, c), a an error object -/
def rIsX (K : PySem.W.Frag) : List V → Hp → VK → Prop := fun xs H Q => ∃ (a D : Addr) (d : Option Addr) (c : V) (cv : Value) (b : Bool), xs = [.ref a, c] ∧ H a = some (exo a D d) ∧ (∀ d', d = some d' → ∃ fs, H d' = some (exd d' fs)) ∧ EI K D ∧ ClsV c cv ∧ PySem.W.kitOne K (.ref D) cv = some b ∧ Q (.bl b) H
theorem call_isX : CallR X (.builtin "isinstance") (rIsX X.K) := by
  intro pins s σ H xs us Q I r h
  obtain ⟨a, D, d, c, cv, b, rfl, ho, hd, T, k, e, q⟩ := h
  obtain ⟨u1, u2, rfl, r1, r2⟩ := vals2 r
  have e2 := k.eq r2
  subst e2
  cases (show u1 = Value.ref a from r1)
  obtain ⟨t1, h1⟩ := exo_at I.hok ho
  have J : ∃ ox od, PySem.W.InstAt s.heap a ox D od := by
    cases d with
    | none => exact ⟨_, none, h1, rfl, rfl, trivial⟩
    | some d' =>
      obtain ⟨fs, e'⟩ := hd d' rfl
      obtain ⟨mA, hns, _⟩ := exd_at I.hok e'
      obtain ⟨od, hod, _⟩ := lookIn_ns hns
      exact ⟨_, some od, h1, rfl, rfl, hod⟩
  exact PySem.W.kia_one T.kit I.kIn J e (fun z => nomatch z) fun tk => ⟨.bl b, H, I.tok tk, rfl, q⟩
end
end XO
set_option maxRecDepth 100000
set_option maxHeartbeats 4000000
namespace XO
open PySem PySem.Spec PyProof.Rows L2
/-! ### data that repr shows: as in Dp, and dicts of one text key -/
mutual
inductive RD (H : Hp) : V → PyData → Prop
  | non : RD H .non .none
  | bl (b : Bool) : RD H (.bl b) (.bool b)
  | int (i : Int) : RD H (.int i) (.int i)
  | str (x : Str) : RD H (.str x) (.str x)
  | lst {a : Addr} {xs : List V} {ds : List PyData} : H a = some (.lst xs) → a ≠ sysModules → RDs H xs ds → RD H (.ref a) (.list ds)
  | tup {a : Addr} {xs : List V} {ds : List PyData} : H a = some (.tup xs) → RDs H xs ds → RD H (.ref a) (.tuple ds)
  | dic {a : Addr} {x : Str} {i : Int} : H a = some (.dK [(Sum.inr x, .int i)]) → RD H (.ref a) (.dict [(.str x, .int i)])
inductive RDs (H : Hp) : List V → List PyData → Prop
  | nil : RDs H [] []
  | cons {v : V} {vs : List V} {d : PyData} {ds : List PyData} : RD H v d → RDs H vs ds → RDs H (v :: vs) (d :: ds)
end
section
variable {X : Cx} {pins : List (Addr × Obj)} {σ : L2.St} {H : Hp} {s : Shared}
mutual
theorem RD.reads (I : Inv X pins σ H s) : ∀ (d : PyData) (v : V) (u : Value), RD H v d → RelV v u → ∃ as, Reads s.heap u d as ∧ sysModules ∉ as
  | .none, _, _, h, r => by
    cases h
    cases r
    exact ⟨_, Reads.none, by simp⟩
  | .bool b, _, _, h, r => by
    cases h
    cases r
    exact ⟨_, Reads.bool b, by simp⟩
  | .int i, _, _, h, r => by
    cases h
    obtain ⟨t, rfl⟩ := r
    exact ⟨_, Reads.int i t, by simp⟩
  | .str x, _, _, h, r => by
    cases h
    obtain ⟨t, rfl⟩ := r
    exact ⟨_, Reads.str x t, by simp⟩
  | .list ds, _, _, h, r => by
    cases h with
    | lst hs hn ha =>
      cases r
      obtain ⟨_, its, n, rv, e⟩ := I.hok _ _ hs
      obtain ⟨as, hr, hm⟩ := RD.readsAll I ds _ its ha rv
      exact ⟨_, Reads.list e rfl rfl hr, by
        intro z
        rcases List.mem_cons.mp z with z | z
        · exact hn z.symm
        · exact hm z⟩
  | .tuple ds, _, _, h, r => by
    cases h with
    | tup hs ha =>
      cases r
      obtain ⟨_, its, rv, o, h1, h2, n, h3⟩ := (show ObjOk X.prog X.w H s.heap _ (.tup _) from I.hok _ _ hs)
      obtain ⟨as, hr, hm⟩ := RD.readsAll I ds _ its ha rv
      exact ⟨_, Reads.tuple h1 h2 h3 hr, hm⟩
  | .dict kvs, _, _, h, r => by
    cases h with
    | @dic a0 x i hs =>
      cases r
      obtain ⟨hz, hn, vs, kv, o, es, ep, h1, hx, h3, hk, pr, nd⟩ := (show ObjOk X.prog X.w H s.heap _ (.dK _) from I.hok _ _ hs)
      cases kv with
      | @cons p0 b l0 r0 k1 k2 =>
        cases k2
        obtain ⟨e1, e2⟩ := k1
        obtain ⟨k, v⟩ := b
        dsimp only at e1 e2
        subst e1
        obtain ⟨t', rfl⟩ := e2
        generalize hl : es.toList = l at pr
        cases pr with
        | @cons en kv0 es0 kvs0 p1 p2 p3 =>
          cases p3
          obtain ⟨t, e3⟩ : ∃ t, en.key = Value.str x t := by
            rcases keyIs_shape (show keyIs (Sum.inr x) en.key = true from p1) with ⟨j, t, z, _⟩ | ⟨y, t, z, w⟩
            · cases z
            · cases z
              exact ⟨t, w⟩
          dsimp only at p2
          refine ⟨_, Reads.dict (kvs := [(.str x, .int i)]) h1 hx.1 h3 (as := []) (bs := []) ?_ ?_, ?_⟩
          · rw [hl]
            show ReadsAll s.heap [en.key] [PyData.str x] []
            rw [e3]
            exact ReadsAll.cons (Reads.str x t) ReadsAll.nil
          · rw [hl]
            show ReadsAll s.heap [en.val] [PyData.int i] []
            rw [p2]
            exact ReadsAll.cons (Reads.int i t') ReadsAll.nil
          · intro z
            rcases List.mem_cons.mp z with z | z
            · rw [← z] at hn
              exact absurd hn (by decide)
            · simp at z
theorem RD.readsAll (I : Inv X pins σ H s) : ∀ (ds : List PyData) (vs : List V) (us : List Value), RDs H vs ds → Vals vs us → ∃ as, ReadsAll s.heap us ds as ∧ sysModules ∉ as
  | [], _, _, h, r => by
    cases h
    cases r
    exact ⟨_, ReadsAll.nil, by simp⟩
  | d :: ds, _, _, h, r => by
    cases h with
    | cons h1 h2 =>
      cases r with
      | cons r1 r2 =>
        obtain ⟨as, q1, m1⟩ := RD.reads I d _ _ h1 r1
        obtain ⟨bs, q2, m2⟩ := RD.readsAll I ds _ _ h2 r2
        exact ⟨_, ReadsAll.cons q1 q2, by
          intro z
          rcases List.mem_append.mp z with z | z
          · exact m1 z
          · exact m2 z⟩
end
/-- repr(x) of such data -/
def rRepr : List V → Hp → VK → Prop := fun xs H Q => ∃ (x : V) (d : PyData), xs = [x] ∧ RD H x d ∧ d.showable = true ∧ d.depth ≤ 64 ∧ d.shown.length ≤ sizeLine ∧ Q (.str d.shown) H
end
section
variable {X : Cx}
theorem call_repr (hg : X.A.guards = some []) (hu : X.A.units + 65 < cLine) : CallR X (.builtin "repr") rRepr := by
  intro pins s σ H xs us Q I r h
  obtain ⟨x, d, rfl, hd, hs, h64, hl, q⟩ := h
  obtain ⟨u, rfl, ru⟩ := vals1 r
  obtain ⟨as, rd, hm⟩ := RD.reads I d x u hd ru
  cases hd with
  | non =>
    cases ru
    exact PySem.P.repr_of_none ⟨.str _, H, I.tok _, ⟨_, rfl⟩, q⟩
  | bl b =>
    cases ru
    refine PySem.P.repr_of_bool ⟨.str _, H, I.tok _, ⟨_, rfl⟩, ?_⟩
    cases b <;> exact q
  | int i =>
    obtain ⟨t, rfl⟩ := ru
    exact PySem.P.repr_of_int (of_decide_eq_true hs) ⟨.str _, H, I.tok _, ⟨_, rfl⟩, q⟩
  | str y =>
    obtain ⟨t, rfl⟩ := ru
    exact PySem.P.repr_of_str ⟨.str _, H, I.tok _, ⟨_, rfl⟩, q⟩ hl
  | lst e n hx =>
    cases ru
    refine repr_of_reads' rd hs (fun _ => hm) hg (by omega) (fun _ _ z => z) (fun h' u tk k => ?_) hl
    exact ⟨.str _, H, I.kept (t' := tk) k, ⟨_, rfl⟩, q⟩
  | tup e hx =>
    cases ru
    refine repr_of_reads' rd hs (fun _ => hm) hg (by omega) (fun _ _ z => z) (fun h' u tk k => ?_) hl
    exact ⟨.str _, H, I.kept (t' := tk) k, ⟨_, rfl⟩, q⟩
  | dic e =>
    cases ru
    refine repr_of_reads' rd hs (fun _ => hm) hg (by omega) (fun _ _ z => z) (fun h' u tk k => ?_) hl
    exact ⟨.str _, H, I.kept (t' := tk) k, ⟨_, rfl⟩, q⟩
end
section
variable {X : Cx} {es : List Expr} {t : TA} {pos : Pos}
/-- [..], and that the list is not sys.modules -/
def tLstN (t : TA) : TE := fun σ H Q => t σ H fun xs H1 => xs.length ≤ sizeLine ∧ ∀ p, H1 p = none → p ≠ sysModules → Q (.ref p) (upd H1 p (.lst xs))
theorem pe_lstN (h : PA X es t) : PE X (.List es pos) (tLstN t) := by
  refine ⟨fun pins s σ H Q I hq => ?_⟩
  refine wpAny_List_spliced (thn (h.run pos pins s σ H _ I hq) fun us s1 w => ?_)
  obtain ⟨xs, H1, I1, r, z, q⟩ := w
  refine ⟨by rw [← r.length]; exact z, ?_⟩
  exact ⟨.ref s1.heap.objs.size, _, I1.lnew (t' := s1.toks) r z, rfl, q _ I1.fresh (Nat.ne_of_gt I1.big)⟩
def rCatN : R2 := fun x y H Q => ∃ l b xs zs, x = .ref l ∧ y = .ref b ∧ H l = some (.lst xs) ∧ H b = some (.lst zs) ∧ xs.length + zs.length ≤ sizeLine ∧ ∀ p, H p = none → p ≠ sysModules → Q (.ref p) (upd H p (.lst (xs ++ zs)))
theorem op_catN : OpR X (binaryOp .Add) rCatN := by
  intro pins s σ H x y v u Q I rx ry h
  obtain ⟨l, b, xs, zs, rfl, rfl, hx, hy, hz, q⟩ := h
  cases rx
  cases ry
  obtain ⟨_, us, n, r, e0, e⟩ := I.lstM hx
  obtain ⟨_, ws, m, r', f0, f⟩ := I.lstM hy
  refine PySem.P.add_list e f ?_ (by rw [List.size_toArray, List.size_toArray, ← e0, ← f0]; exact hz)
  rw [show us.toArray ++ ws.toArray = (us ++ ws).toArray by simp]
  exact ⟨.ref _, _, I.lnew (t' := s.toks) (r.append r') (by rw [List.length_append]; exact hz), rfl, q _ I.fresh (Nat.ne_of_gt I.big)⟩
def rRepN : R2 := fun x y H Q => ∃ l xs k, x = .ref l ∧ y = .int k ∧ H l = some (.lst xs) ∧ 0 ≤ k ∧ k < 1000 ∧ xs.length ≤ 1000 ∧ ∀ p, H p = none → p ≠ sysModules → Q (.ref p) (upd H p (.lst (List.replicate k.toNat xs).flatten))
theorem op_repN : OpR X (binaryOp .Mult) rRepN := by
  intro pins s σ H x y v u Q I rx ry h
  obtain ⟨l, xs, k, rfl, rfl, hx, k0, k1, hl, q⟩ := h
  cases rx
  obtain ⟨t, rfl⟩ := ry
  obtain ⟨_, us, n, r, e0, e⟩ := I.lstM hx
  have sz : us.toArray.size * k.toNat ≤ 1000 * 1000 := by
    rw [List.size_toArray, ← e0]
    exact Nat.mul_le_mul hl (by omega)
  have sl : us.toArray.size * k.toNat ≤ sizeLine := Nat.le_trans sz (by decide)
  have c1 : ¬ us.toArray.size * k.toNat > (2 ^ 63 - 1) / 8 := by
    have : 1000 * 1000 ≤ (2 ^ 63 - 1) / 8 := by decide
    omega
  have c2 : ¬ (!Builtin.List.listFitsIndex k) = true := by
    rw [fitsIndex_both (by omega) (by omega)]
    exact Bool.false_ne_true
  have c3 : ¬ Builtin.List.listTooLong (us.toArray.size * k.toNat) = true := by
    rw [notLongL sl]
    exact Bool.false_ne_true
  have made : List.foldl (fun x1 x2 => x1 ++ x2) #[] (List.replicate (if us.toArray.isEmpty = true then 0 else k.toNat) us.toArray) = (List.replicate k.toNat us).flatten.toArray := by
    have f0 : ∀ m : Nat, List.foldl (fun x1 x2 => x1 ++ x2) #[] (List.replicate m us.toArray) = (List.replicate m us).flatten.toArray := fun m => by
      have z := foldl_rep us m []
      rw [List.nil_append] at z
      exact z
    rw [f0]
    cases us with
    | nil => simp
    | cons a r' => rw [if_neg (by simp)]
  refine wpAny_binaryOp_repeat_ref (T := "list") (U := "int") (by decide) ⟨_, e, rfl⟩ (fun s' => typeIs_int s' k t) noFill_list_mul F.fills_int_mul
    F.slot_int_rmul repeat_list F.slot_int_index.lookup (call_meets F.slot_int_rmul (typeIs_int s k t) F.entry_int_rmul (F.args_int_rmul_2 _ _)
      (int___rmul___int_list k t l us.toArray n) ⟨e, rfl, ⟨_, e, rfl⟩, call_meets F.slot_list_mul ⟨_, e, rfl⟩ F.entry_list_mul (F.args_list_mul_2 _ _)
        (AutoListH.list___mul___list_int_3 l us.toArray n k t c2 c1 c3) ⟨e, ?_⟩⟩)
  rw [made]
  exact ⟨.ref _, _, I.lnew (t' := s.toks) (r.rep k.toNat) (by rw [PyProof.Rows.lm_len_rep_flat, Nat.mul_comm, r.length, ← List.size_toArray]; exact sl), rfl, q _ I.fresh (Nat.ne_of_gt I.big)⟩
end
end XO
set_option maxRecDepth 100000
set_option maxHeartbeats 4000000
/-! The law's own def, entered from its caller alone: there nothing is being shown (repr asks that). -/
namespace XO
open PySem PySem.Spec PyProof.Rows L2
/-- a def entered at one place A, by its body -/
theorem run_at {P : Program} {w : World} {K : PySem.W.Frag} {mg : Str → Option Value} {base : Heap} {k : Nat} {f : Addr} {x0 qn : Str} {pr : Arguments} {bd : List Stmt} {sc : Scope} {dV kV doc pm cdv ct oc : Value} {an od : Option Addr} {sl : Array (Option Value)} {N ps : List Str}
    (lk : K.lookup f = some ⟨oc, od, .func (PySem.W.fnOf x0 qn pr bd sc dV kV doc pm an cdv ct), sl⟩) (hcd : PySem.W.codeIn K cdv qn = true) (S : FnScope N ps sc) {A : Around} {outer : List Env} {s : Shared} {H : Hp} {args : Args} {us : List Value} {vs : List V} {Q : VK} {E : XK}
    (hr : Room (k + 1) A) (e0 : Env0 P w K mg base A outer s H) (hb : BindsTo s (PySem.W.fnOf x0 qn pr bd sc dV kV doc pm an cdv ct) args (ps.zip us)) (r : Vals vs us) (hl : vs.length = ps.length)
    (body : Room k (A.deeper (envOfC qn sc s.heap.objs.size f cdv)) → ∃ t, PSs (cxOf CX0 P w K mg base N qn sc f cdv A outer s H E).nox bd t ∧ t { nx := fun _ H' => Q .non H', rt := Q } (start N vs) H) :
    codeAny (model P w) A (.call (.ref f) args) (CR CX0 outer P w H s Q E) s := by
  have X0 : K.In s.heap := e0.mod.kin.keeps fun b o e => (e0.bs b o e).1
  have lim : s.heap.NoLimit := e0.mod.nolimit.keeps fun b o e => (e0.bs b o e).1
  refine codeAny_call_function hr.depth (X0 _ _ lk) rfl S.co S.gen rfl (PySem.W.codeRec_of X0 hcd) (hb _ _ _ _ ?_)
  refine wpAny_newFunctionEnv_cells S.kind (fun z hz => ?_) fun env he s1 y => ?_
  · rcases S.par z.1 (List.of_mem_zip (show (z.1, z.2) ∈ ps.zip us from hz)).1 with c | c
    · exact .inl c
    · exact .inr ⟨c, PySem.W.cellsFrom_some _ _ _ (.inl c)⟩
  · subst he
    obtain ⟨t, ht, hq⟩ := body (hr.deeper _)
    refine ⟨lim.keeps y.toInCall.keep, codeAny_func ?_⟩
    have I := inv_start (CX := CX0) (E := E) S hr.hd e0 hl r y
    refine wpAny_mono (ht.nox.run [] s1 (start N vs) H _ I hq) (fun fl s' hs => ?_) fun e s' hs => hs
    cases fl with
    | ret u =>
      obtain ⟨v, σ', H', J, rv, q⟩ := hs
      exact ⟨v, H', J.os, J.bare, J.base, J.hok, rv, q⟩
    | next =>
      obtain ⟨σ', H', J, q⟩ := hs
      exact ⟨V.non, H', J.os, J.bare, J.base, J.hok, rfl, q⟩
    | brk =>
      obtain ⟨_, _, _, q⟩ := hs
      exact q.elim
    | cont =>
      obtain ⟨_, _, _, q⟩ := hs
      exact q.elim
/-! ### the start: which abstract heap the script stands in -/
section
variable {P : Program} {w : World} {K : PySem.W.Frag} {mg mb : Str → Option Value} {f a : Addr} {s₁ s' : Shared} {vs : List Value} {ns : List Int} {H H' : Hp} {CX : CXT}
/-- H tracks at most the script at a, known to its object -/
structure Starts (P : Program) (w : World) (K : PySem.W.Frag) (a : Addr) (ns : List Int) (s₁ : Shared) (H : Hp) : Prop where
  only : Only H
  sq : SqL K H a (ns.map V.int)
  ok : HOk P w H s₁.heap
  at_ : ∀ b u, H b = some u → b = a ∧ K.lookup a = none
theorem starts_ex (X0 : K.In s₁.heap) (ha : s₁.heap.get? a = some { cls := .type "list", data := .seq vs.toArray }) (hi : IntsAre vs ns) (hl : ns.length ≤ sizeLine) : ∃ H, Starts P w K a ns s₁ H := by
  have vi := vals_ints hi
  match hk : K.lookup a with
  | some o =>
    cases ha.symm.trans (X0 a o hk)
    exact ⟨fun _ => none, fun _ => .inl rfl, .inr ⟨_, _, _, hk, rfl, rfl, rfl, by rw [List.size_toArray, hi.length]; exact hl, by simpa using vi⟩, nofun, nofun⟩
  | none =>
    let it : HO := .frz { cls := .type "list", data := .seq vs.toArray } (.lst (ns.map V.int))
    have here : ∀ b u, (fun b => if b = a then some it else none) b = some u → b = a ∧ u = it := fun b u z => by
      by_cases hb : b = a
      · exact ⟨hb, (Option.some.inj ((if_pos hb).symm.trans z)).symm⟩
      · exact nomatch (if_neg hb).symm.trans z
    refine ⟨fun b => if b = a then some it else none, fun b => ?_, .inl (.inr ⟨_, if_pos rfl⟩), fun b u z => ?_, fun b u z => ⟨(here b u z).1, hk⟩⟩
    · cases e : (fun b => if b = a then some it else none) b with
      | none => exact .inl e
      | some u => exact .inr ⟨_, _, e.trans (congrArg some (here b u e).2)⟩
    · obtain ⟨rfl, rfl⟩ := here b u z
      exact ⟨ha, (by rw [List.length_map]; exact hl), vs, _, vi, ha⟩
theorem Starts.none_of (S : Starts P w K a ns s₁ H) {b : Addr} (h : b = a → K.lookup a = none → False) : H b = none :=
  Option.eq_none_iff_forall_ne_some.mpr fun u z => h (S.at_ b u z).1 (S.at_ b u z).2
theorem Starts.env (S : Starts P w K a ns s₁ H) (X0 : K.In s₁.heap) (G : s₁.heap.Ns mainGlobals mg) (Gb : s₁.heap.Ns builtinsNs mb) (bb : ∀ x : Str, x ≠ "__name__" → mb x = bootBuiltins x) (lim : s₁.heap.NoLimit) (g0 : s₁.gens = #[])
    (ha : s₁.heap.get? a = some { cls := .type "list", data := .seq vs.toArray }) : K.In (hidT s₁.heap H) ∧ (hidT s₁.heap H).Ns mainGlobals mg ∧ Env0 P w K mg (hidT s₁.heap H) callerA [] s₁ H := by
  have names : ∀ {b : Addr} {m : Str → Option Value}, s₁.heap.Ns b m → (hidT s₁.heap H).Ns b m := fun ⟨o, es, ep, e, d, z⟩ => by
    refine ⟨o, es, ep, hidT_get e (S.none_of fun q _ => ?_), d, z⟩
    cases (q ▸ e).symm.trans ha
    exact nomatch (show Data.seq vs.toArray _ = Data.dict es ep from d)
  have own : K.In (hidT s₁.heap H) := fun b o e => hidT_get (X0 b o e) (S.none_of fun q n => nomatch (q ▸ e : K.lookup a = some o).symm.trans n)
  obtain ⟨mc, l1, l2⟩ := lim
  exact ⟨own, names G, rfl, ⟨own, names G, ⟨mb, names Gb, bb⟩, mc, names l1, l2⟩, fun _ _ => of_hidT, Nat.le_of_eq (hidT_size _ _), trivial, nofun, S.ok, .of_eq g0⟩
/-- what stood at the start stands at the end -/
theorem Starts.stays (S : Starts P w K a ns s₁ H) (un : Un (frs []) [] H H' s₁.heap s'.heap) (ok : HOk P w H' s'.heap) : OldK s₁.heap s'.heap := OldK.of_keep fun b o e => by
  match q : H b with
  | none => exact un.keep b o e q nofun nofun
  | some u =>
    obtain ⟨ob, xs, y⟩ := (S.only b).resolve_left (by rw [q]; nofun)
    cases e.symm.trans (S.ok b _ y).1
    exact (ok b _ (un.frzs b _ _ y)).1
/-- the law's call: the def at f gives True from wherever the script's list stands -/
theorem law_atC (X0 : K.In s₁.heap) (G : s₁.heap.Ns mainGlobals mg) (Gb : s₁.heap.Ns builtinsNs mb) (bb : ∀ x : Str, x ≠ "__name__" → mb x = bootBuiltins x) (lim : s₁.heap.NoLimit) (g0 : s₁.gens = #[])
    (ha : s₁.heap.get? a = some { cls := .type "list", data := .seq vs.toArray }) (hi : IntsAre vs ns) (hl : ns.length ≤ sizeLine) (hCX : ∀ H e s', CX [] H s₁ (fun _ _ _ => False) e s' → False)
    (F : ∀ (base : Heap) (H : Hp), K.In base → base.Ns mainGlobals mg → Env0 P w K mg base callerA [] s₁ H → Only H → SqL K H a (ns.map V.int) →
      codeAny (model P w) callerA (.call (.ref f) ⟨[.ref a], []⟩) (CR CX [] P w H s₁ (fun v _ => v = .bl true) fun _ _ _ => False) s₁) :
    codeAny (model P w) callerA (.call (.ref f) ⟨[.ref a], []⟩) (fun r s' => r = .ok (.ret (.bool true)) ∧ OldK s₁.heap s'.heap ∧ s'.os = s₁.os ∧ AllBare s'.gens) s₁ := by
  obtain ⟨H, S⟩ := starts_ex (P := P) (w := w) X0 ha hi hl
  obtain ⟨k, g, e0⟩ := S.env X0 G Gb bb lim g0 ha
  refine codeAny_mono (F _ H k g e0 S.only S.sq) ?_
  rintro (e | fl) s' z
  · exact (hCX H e s' z).elim
  · cases fl with
    | ret u =>
      obtain ⟨_, H', os, bare, un, ok, ru, rfl⟩ := z
      exact ⟨congrArg (fun v => Except.ok (Flow.ret v)) ru, S.stays un ok, os, bare⟩
    | _ => exact False.elim z
theorem law_at (X0 : K.In s₁.heap) (G : s₁.heap.Ns mainGlobals mg) (Gb : s₁.heap.Ns builtinsNs mb) (bb : ∀ x : Str, x ≠ "__name__" → mb x = bootBuiltins x) (lim : s₁.heap.NoLimit) (g0 : s₁.gens = #[])
    (ha : s₁.heap.get? a = some { cls := .type "list", data := .seq vs.toArray }) (hi : IntsAre vs ns) (hl : ns.length ≤ sizeLine)
    (F : ∀ (base : Heap) (H : Hp), K.In base → base.Ns mainGlobals mg → Env0 P w K mg base callerA [] s₁ H → Only H → SqL K H a (ns.map V.int) →
      codeAny (model P w) callerA (.call (.ref f) ⟨[.ref a], []⟩) (CR CX0 [] P w H s₁ (fun v _ => v = .bl true) fun _ _ _ => False) s₁) :
    codeAny (model P w) callerA (.call (.ref f) ⟨[.ref a], []⟩) (fun r s' => r = .ok (.ret (.bool true)) ∧ OldK s₁.heap s'.heap ∧ s'.os = s₁.os ∧ AllBare s'.gens) s₁ := law_atC (CX := CX0) X0 G Gb bb lim g0 ha hi hl (fun _ _ _ z => z) F
end
end XO
set_option maxRecDepth 100000
set_option maxHeartbeats 4000000
/-! What an expression gives, where all that is known stays known: Grow, Stb, EvP. -/
namespace LP
open PySem PySem.Spec PyProof.Rows L2
abbrev Grow (H H' : Hp) : Prop := ∀ b o, H b = some o → H' b = some o
theorem grow_rfl {H : Hp} : Grow H H := fun _ _ h => h
theorem Grow.tr {H H1 H2 : Hp} (a : Grow H H1) (b : Grow H1 H2) : Grow H H2 := fun c o h => b c o (a c o h)
theorem grow_new {H : Hp} {p : Addr} {o : HO} (h : H p = none) : Grow H (upd H p o) := fun a u e => by
  rw [upd_ne (ne_of_none e h)]
  exact e
abbrev PV := V → Hp → Prop
def Stb (P : PV) : Prop := ∀ v H H', Grow H H' → P v H → P v H'
def EvP (te : TE) (σ : L2.St) (H : Hp) (P : PV) : Prop := ∀ H1, Grow H H1 → ∀ Q : VK, (∀ v H2, Grow H1 H2 → P v H2 → Q v H2) → te σ H1 Q
def AllP : List PV → List V → Hp → Prop
  | [], [], _ => True
  | P :: Ps, v :: vs, H => P v H ∧ AllP Ps vs H
  | _, _, _ => False
def StbA : List PV → Prop
  | [] => True
  | P :: Ps => Stb P ∧ StbA Ps
theorem AllP.grow : ∀ {Ps : List PV} {vs : List V} {H H' : Hp}, StbA Ps → Grow H H' → AllP Ps vs H → AllP Ps vs H'
  | [], [], _, _, _, _, _ => trivial
  | _ :: _, _ :: _, _, _, ⟨s, t⟩, g, ⟨a, b⟩ => ⟨s _ _ _ g a, AllP.grow t g b⟩
theorem AllP.len : ∀ {Ps : List PV} {vs : List V} {H : Hp}, AllP Ps vs H → vs.length = Ps.length
  | [], [], _, _ => rfl
  | _ :: _, _ :: _, _, ⟨_, b⟩ => congrArg Nat.succ (AllP.len b)
theorem AllP.app : ∀ {Ps Qs : List PV} {vs ws : List V} {H : Hp}, AllP Ps vs H → AllP Qs ws H → AllP (Ps ++ Qs) (vs ++ ws) H
  | [], _, [], _, _, _, b => b
  | _ :: _, _, _ :: _, _, _, ⟨x, y⟩, b => ⟨x, AllP.app y b⟩
theorem AllP.at : ∀ {Ps : List PV} {vs : List V} {H : Hp} {i : Nat} {P : PV}, AllP Ps vs H → Ps[i]? = some P → ∃ v, vs[i]? = some v ∧ P v H
  | _ :: _, v :: _, _, 0, _, ⟨x, _⟩, e => by
    cases e
    exact ⟨v, rfl, x⟩
  | _ :: Ps, _ :: vs, _, i + 1, P, ⟨_, y⟩, e => AllP.at (i := i) y e
theorem StbA.app : ∀ {Ps Qs : List PV}, StbA Ps → StbA Qs → StbA (Ps ++ Qs)
  | [], _, _, b => b
  | _ :: _, _, ⟨x, y⟩, b => ⟨x, StbA.app y b⟩
def EvPs (ta : TA) (σ : L2.St) (H : Hp) (Ps : List PV) : Prop := ∀ H1, Grow H H1 → ∀ Q : List V → Hp → Prop, (∀ vs H2, Grow H1 H2 → AllP Ps vs H2 → Q vs H2) → ta σ H1 Q
/-- a list (a tuple) of such values, not sys.modules where that is asked -/
def LstP (Ps : List PV) : PV := fun v H => ∃ (p : Addr) (xs : List V), v = .ref p ∧ H p = some (.lst xs) ∧ AllP Ps xs H
def LstN (Ps : List PV) : PV := fun v H => ∃ (p : Addr) (xs : List V), v = .ref p ∧ p ≠ sysModules ∧ H p = some (.lst xs) ∧ AllP Ps xs H
def IsP (v : V) : PV := fun u _ => u = v
theorem stb_is {v : V} : Stb (IsP v) := fun _ _ _ _ h => h
theorem stb_lst {Ps : List PV} (s : StbA Ps) : Stb (LstP Ps) := fun _ _ _ g ⟨p, xs, e, h, a⟩ => ⟨p, xs, e, g _ _ h, a.grow s g⟩
theorem stb_lstN {Ps : List PV} (s : StbA Ps) : Stb (LstN Ps) := fun _ _ _ g ⟨p, xs, e, n, h, a⟩ => ⟨p, xs, e, n, g _ _ h, a.grow s g⟩
section
variable {K : PySem.W.Frag} {σ : L2.St} {H H' : Hp} {te ta tb : TE} {tl : TA} {P R : PV} {Ps Qs : List PV} {v : V} {i : Nat}
theorem EvP.grow (e : Grow H H') (h : EvP te σ H P) : EvP te σ H' P := fun H1 g Q q => h H1 (e.tr g) Q q
theorem evp_var (h : σ[i]? = some (some v)) (p : P v H) (s : Stb P) : EvP (tVar i) σ H P := fun H1 g Q q => ⟨v, h, q v H1 grow_rfl (s _ _ _ g p)⟩
theorem evp_c : EvP (tC v) σ H (IsP v) := fun H1 _ Q q => q v H1 grow_rfl rfl
theorem EvPs.nil : EvPs tNil σ H [] := fun H1 _ Q q => q [] H1 grow_rfl trivial
theorem EvPs.cons (s : Stb P) (h : EvP te σ H P) (t : EvPs tl σ H Ps) : EvPs (tCons te tl) σ H (P :: Ps) := fun H1 g Q q => h H1 g _ fun x H2 g2 px => t H2 (g.tr g2) _ fun xs H3 g3 pxs => q _ H3 (g2.tr g3) ⟨s _ _ _ g3 px, pxs⟩
theorem evp_lst (n : Ps.length ≤ 1000) (h : EvPs tl σ H Ps) (s : StbA Ps) : EvP (tLst tl) σ H (LstP Ps) := fun H1 g Q q => h H1 g _ fun xs H2 g2 px =>
  ⟨Nat.le_trans (Nat.le_of_eq px.len) (Nat.le_trans n (by decide)), fun p hp => q _ _ (g2.tr (grow_new hp)) ⟨p, xs, rfl, upd_same, px.grow s (grow_new hp)⟩⟩
theorem evp_lstN (n : Ps.length ≤ 1000) (h : EvPs tl σ H Ps) (s : StbA Ps) : EvP (XO.tLstN tl) σ H (LstN Ps) := fun H1 g Q q => h H1 g _ fun xs H2 g2 px =>
  ⟨Nat.le_trans (Nat.le_of_eq px.len) (Nat.le_trans n (by decide)), fun p hp np => q _ _ (g2.tr (grow_new hp)) ⟨p, xs, rfl, np, upd_same, px.grow s (grow_new hp)⟩⟩
theorem evp_cat (n : Ps.length + Qs.length ≤ 1000) (h : EvP ta σ H (LstP Ps)) (t : EvP tb σ H (LstP Qs)) (s : StbA Ps) (s' : StbA Qs) : EvP (tOp rCat ta tb) σ H (LstP (Ps ++ Qs)) := fun H1 g Q q =>
  h H1 g _ fun x H2 g2 ⟨p, xs, ex, hp, ap⟩ => t H2 (g.tr g2) _ fun y H3 g3 ⟨p', ys, ey, hp', ap'⟩ => by
    subst ex ey
    refine ⟨p, p', xs, ys, rfl, rfl, g3 _ _ hp, hp', ?_, fun z hz => q _ _ ((g2.tr g3).tr (grow_new hz)) ⟨z, _, rfl, upd_same, ((ap.grow s g3).app ap').grow (s.app s') (grow_new hz)⟩⟩
    rw [ap.len, ap'.len]
    exact Nat.le_trans n (by decide)
theorem evp_catN (n : Ps.length + Qs.length ≤ 1000) (h : EvP ta σ H (LstP Ps)) (t : EvP tb σ H (LstP Qs)) (s : StbA Ps) (s' : StbA Qs) : EvP (tOp XO.rCatN ta tb) σ H (LstN (Ps ++ Qs)) := fun H1 g Q q =>
  h H1 g _ fun x H2 g2 ⟨p, xs, ex, hp, ap⟩ => t H2 (g.tr g2) _ fun y H3 g3 ⟨p', ys, ey, hp', ap'⟩ => by
    subst ex ey
    refine ⟨p, p', xs, ys, rfl, rfl, g3 _ _ hp, hp', ?_, fun z hz nz => q _ _ ((g2.tr g3).tr (grow_new hz)) ⟨z, _, rfl, nz, upd_same, ((ap.grow s g3).app ap').grow (s.app s') (grow_new hz)⟩⟩
    rw [ap.len, ap'.len]
    exact Nat.le_trans n (by decide)
theorem LstN.lst (v : V) (H : Hp) (h : LstN Ps v H) : LstP Ps v H := by
  obtain ⟨p, xs, e, _, r⟩ := h
  exact ⟨p, xs, e, r⟩
theorem EvP.imp (m : ∀ v H, P v H → R v H) (h : EvP te σ H P) : EvP te σ H R := fun H1 g Q q => h H1 g Q fun v H2 g2 p => q v H2 g2 (m v H2 p)
/-- an item of a list at a written place -/
theorem evp_ix {k : Int} {j : Nat} (h : EvP ta σ H (LstP Ps)) (e : k = (j : Int)) (hj : Ps[j]? = some P) : EvP (tOp (rIxL K) ta (tC (.int k))) σ H P := fun H1 g Q q =>
  h H1 g _ fun x H2 g2 ⟨p, xs, ex, hp, ap⟩ => by
    subst ex
    obtain ⟨v, hv, pv⟩ := ap.at hj
    exact ⟨p, xs, k, v, rfl, rfl, SqL.of hp, by rw [e]; exact atI_nat hv, q v H2 g2 pv⟩
theorem st_setP {D : Ends} (h : EvP te σ H P) (q : ∀ v H', Grow H H' → P v H' → D.nx (σ.set i (some v)) H') : tAsg te (gName i) D σ H := h H grow_rfl _ fun v H2 g p => q v H2 g p
theorem sq_set {D : Ends} {u : TS} (h : EvP te σ H P) (q : ∀ v H', Grow H H' → P v H' → u D (σ.set i (some v)) H') : tSeq (tAsg te (gName i)) u D σ H := h H grow_rfl _ fun v H2 g p => q v H2 g p
theorem st_retP {D : Ends} (h : EvP te σ H P) (q : ∀ v H', Grow H H' → P v H' → D.rt v H') : tRet te D σ H := h H grow_rfl _ fun v H2 g p => q v H2 g p
end
end LP
set_option maxRecDepth 100000
set_option maxHeartbeats 4000000
/-! Operators that an own class defines, and the truth of its instances, over the hand layer. -/
namespace RX
open PySem PySem.Spec PyProof.Rows L2
theorem back {v : V} {u : Value} {Q : Value → Shared → Prop} {s : Shared} (r : RelV v u) (q : Q u s) : PySem.W.CmpBack Q u s := by
  cases v with
  | non => cases r; exact q
  | bl b => cases r; exact q
  | int i => obtain ⟨t, rfl⟩ := r; exact q
  | str x => obtain ⟨t, rfl⟩ := r; exact q
  | byt x => obtain ⟨t, rfl⟩ := r; exact q
  | flt x => obtain ⟨t, rfl⟩ := r; exact q
  | ref a => cases r; exact q
  | ty n => cases r; exact q
/-- a special method that the class at C has of its own -/
structure Own (K : PySem.W.Frag) (C f : Addr) (name : Str) : Prop where
  at_ : PySem.W.findIn K (.ref C) name = some (some (.ref f))
  fn : PySem.W.isFn K (.ref f) = true
section
variable {X : Cx} {CX : CXT} {k : Nat} {f C : Addr} {fd : FuncData} {ps : List Str} {sp : Sp} {E : XK} {pins : List (Addr × Obj)} {σ : L2.St} {H : Hp} {s : Shared}
theorem inst_at {a dx : Addr} {fs : List (Str × V)} (I : Inv X pins σ H s) (e : H a = some (.ins C dx fs)) : ∃ ox od, PySem.W.InstAt s.heap a ox C (some od) := by
  obtain ⟨mA, J, _⟩ := ins_get I.hok e
  obtain ⟨od, J, _⟩ := J.look
  exact ⟨_, od, J⟩
/-- the callee runs, from an around below the body's -/
theorem run_sub {A : Around} {Q : VK} {us : List Value} {vs : List V} (F : FnOk X.prog X.w X.K X.mg X.base CX k f fd ps sp) (hr : Room k A) (fr : A.frames = X.A.frames) (hb : Binds X.K fd ps []) (hx : Passes CX X E)
    (I : Inv X pins σ H s) (r : Vals vs us) (h : sp vs H Q E) : wpAny (model X.prog X.w) A (call (.ref f) us) (EP X pins σ Q) X.xe s := by
  have e0 : Env0 X.prog X.w X.K X.mg X.base A X.stack s H := by
    have e := I.env0
    exact ⟨by rw [fr]; exact e.frames, e.mod, e.bs, e.bsz, e.funs, e.frf, e.hok, e.bare⟩
  have hl : us.length = ps.length := by rw [← r.length]; exact F.len _ _ _ _ h
  refine wpAny_call (codeAny_mono (F.run A X.stack s H ⟨us, []⟩ us vs Q E hr e0 (by
    have := hb s us I.kIn (by simpa using hl)
    simpa using this) r h) fun r s' hq => ?_)
  cases r with
  | error e => exact hx pins σ H s e s' I hq
  | ok fl =>
    cases fl with
    | ret u => exact I.after hq
    | next => exact False.elim hq
    | brk => exact False.elim hq
    | cont => exact False.elim hq
/-- x op y, both of the class at C, by its own def -/
def rOwn (C : Addr) (sp : Sp) (E : XK) : R2 := fun x y H Q => ∃ a dx fs b dy gs, x = .ref a ∧ y = .ref b ∧ H a = some (.ins C dx fs) ∧ H b = some (.ins C dy gs) ∧ sp [.ref a, .ref b] H Q E
theorem op_own {op : Operator} (F : FnOk X.prog X.w X.K X.mg X.base CX k f fd ps sp) (hc : PySem.W.selfFirst X.K C = true) (O : Own X.K C f (PySem.dunder op.info.2)) (hr : Room k X.A) (hb : Binds X.K fd ps []) (hx : Passes CX X E) : OpR X (binaryOp op) (rOwn C sp E) := by
  intro pins s σ H x y v u Q I rx ry h
  obtain ⟨a, dx, fs, b, dy, gs, rfl, rfl, ea, eb, q⟩ := h
  cases rx
  cases ry
  obtain ⟨_, _, J⟩ := inst_at I ea
  obtain ⟨_, _, J'⟩ := inst_at I eb
  obtain ⟨m, hF⟩ := I.fr
  refine PySem.W.binop_K hF I.ok.mod.kin J J'.type hc O.at_ O.fn ?_
  refine wpAny_mono (run_sub (vs := [.ref a, .ref b]) F hr rfl hb hx I (.cons rfl (.cons rfl .nil)) q) (fun r s' z => ?_) fun _ _ z => z
  have z' := z
  obtain ⟨_, _, _, rv, _⟩ := z'
  exact back rv z
/-- -x -/
def rNegO (C : Addr) (sp : Sp) (E : XK) : V → Hp → VK → Prop := fun x H Q => ∃ a dx fs, x = .ref a ∧ H a = some (.ins C dx fs) ∧ sp [.ref a] H Q E
theorem un_own (F : FnOk X.prog X.w X.K X.mg X.base CX k f fd ps sp) (O : Own X.K C f "__neg__") (hr : Room k X.A) (hb : Binds X.K fd ps []) (hx : Passes CX X E) : UnR X (unaryOp .USub) (rNegO C sp E) := by
  intro pins s σ H x v Q I rx h
  obtain ⟨a, dx, fs, rfl, ea, q⟩ := h
  cases rx
  obtain ⟨_, _, J⟩ := inst_at I ea
  obtain ⟨m, hF⟩ := I.fr
  exact PySem.W.ksp_neg hF I.ok.mod.kin J O.at_ O.fn (run_sub (vs := [.ref a]) F hr rfl hb hx I (.cons rfl .nil) q)
/-- what stands at a value's type -/
theorem ty_looks {x : V} {u t : Value} {M : Model} (I : Inv X pins σ H s) (rx : RelV x u) (ty : TyOf X.K H x t) : PySem.W.Looks M s.heap (typeOf u) t := by
  cases ty with
  | non => cases (show u = Value.none from rx); exact PySem.W.Looks.of_pure rfl
  | bl y => cases (show u = Value.bool y from rx); exact PySem.W.Looks.of_pure rfl
  | int i => obtain ⟨t, q⟩ := (show ∃ t, u = Value.int i t from rx); cases q; exact PySem.W.Looks.of_pure rfl
  | str y => obtain ⟨t, q⟩ := (show ∃ t, u = Value.str y t from rx); cases q; exact PySem.W.Looks.of_pure rfl
  | flt y => obtain ⟨t, q⟩ := (show ∃ t, u = Value.float y t from rx); cases q; exact PySem.W.Looks.of_pure rfl
  | @lst a xs ea =>
    cases (show u = Value.ref a from rx)
    obtain ⟨_, _, n, _, h1⟩ := (show ObjOk X.prog X.w H s.heap a (.lst xs) from I.hok a _ ea)
    exact fun A Q E s k q => wpAny_typeOf_ref (k _ _ h1) q
  | @frz a ob xs ea =>
    cases (show u = Value.ref a from rx)
    obtain ⟨_, _, _, n, _, h1⟩ := (show ObjOk X.prog X.w H s.heap a (.frz ob (.lst xs)) from I.hok a _ ea)
    exact fun A Q E s k q => wpAny_typeOf_ref (k _ _ h1) q
  | @tup a xs ea =>
    cases (show u = Value.ref a from rx)
    obtain ⟨_, _, _, p⟩ := (show ObjOk X.prog X.w H s.heap a (.tup xs) from I.hok a _ ea)
    obtain ⟨o, h1, h2, _⟩ := p
    exact fun A Q E s k q => wpAny_typeOf_ref (k _ _ h1) (by rw [h2]; exact q)
  | @dK a kvs ea =>
    cases (show u = Value.ref a from rx)
    obtain ⟨_, _, vs, _, p⟩ := (show ObjOk X.prog X.w H s.heap a (.dK kvs) from I.hok a _ ea)
    obtain ⟨o, es, ep, h1, h2, _⟩ := p
    exact fun A Q E s k q => wpAny_typeOf_ref (k _ _ h1) (by rw [h2.1]; exact q)
  | @dT a kvs ea =>
    cases (show u = Value.ref a from rx)
    obtain ⟨_, _, xs, _, o, es, ep, h1, h2, _⟩ := (show ObjOk X.prog X.w H s.heap a (.dT kvs) from I.hok a _ ea)
    exact fun A Q E s k q => wpAny_typeOf_ref (k _ _ h1) (by rw [h2.1]; exact q)
  | @ins a C dx fs ea cl ha hn htk hm =>
    cases (show u = Value.ref a from rx)
    obtain ⟨_, _, J⟩ := inst_at I ea
    exact J.type
/-- x == y, x of the class at C, y of any type that is known -/
def rEqO (K : PySem.W.Frag) (C : Addr) (sp : Sp) (E : XK) : R2 := fun x y H Q => ∃ a dx fs t, x = .ref a ∧ H a = some (.ins C dx fs) ∧ TyOf K H y t ∧ PySem.W.notFirst K C t = true ∧ sp [.ref a, y] H Q E
theorem op_eqO (F : FnOk X.prog X.w X.K X.mg X.base CX k f fd ps sp) (O : Own X.K C f "__eq__") (hr : Room k X.A) (hb : Binds X.K fd ps []) (hx : Passes CX X E) : OpR X (compareOp .Eq) (rEqO X.K C sp E) := by
  intro pins s σ H x y v u Q I rx ry h
  obtain ⟨a, dx, fs, t, rfl, ea, ty, hn, q⟩ := h
  cases rx
  obtain ⟨_, _, J⟩ := inst_at I ea
  obtain ⟨m, hF⟩ := I.fr
  show wpAny _ _ (richCompare .Eq (.ref a) u) _ _ _
  refine PySem.W.cmp_K (op := .Eq) hr.units0 hF I.ok.mod.kin J (ty_looks I ry ty) hn O.at_ O.fn ?_
  refine wpAny_mono (run_sub (vs := [.ref a, y]) F hr rfl hb hx I (.cons rfl (.cons ry .nil)) q) (fun r s' z => ?_) fun _ _ z => z
  have z' := z
  obtain ⟨_, _, _, rv, _⟩ := z'
  exact back rv z
end
/-! ### !=, by object's own __ne__ over the class's __eq__ -/
section
open PySem.W
variable {prog : Program} {w : World} {A : Around} {E : Value → Shared → Prop} {s : Shared} {K : Frag} {x C L f : Addr} {h₀ : Heap} {m : Str → Option Value} {ox : Obj} {od : Option Obj} {b tb : Value}
theorem ne_entry (X : K.In s.heap) (I : InstAt s.heap x ox C od) (hs : findIn K (.ref C) "__eq__" = some (some (.ref f))) (hf : isFn K (.ref f) = true) (hu : A.units < cLine) {Q : Fin → Shared → Prop}
    (hcall : wpAny (model prog w) A (call (.ref f) [.ref x, b]) (fun v s' => ∃ c, v = .bool c ∧ Q (.done (.ret (.bool (!c)))) s') E s) :
    wpAny (model prog w) A (Builtin.«object.__ne__» ⟨[.ref x, b], []⟩) Q E s := by
  have one : wpAny (model prog w) A (callSpecialIfBound? (.ref x) (Str.ofString "__eq__") [b]) (fun r s' => ∃ c, r = some (.bool c) ∧ Q (.done (.ret (.bool (!c)))) s') E s :=
    ifBound_K X I hs hf (wpAny_mono hcall (fun v s' z => by
      obtain ⟨c, rfl, q⟩ := z
      exact ⟨c, rfl, q⟩) fun _ _ z => z)
  obtain ⟨hh, g, d, t, os⟩ := s
  unfold Builtin.«object.__ne__»
  repeat (first
    | with_reducible refine wpAny_cRoomFor hu ?_
    | (refine wpAny_bind (m := callSpecialIfBound? (.ref x) (Str.ofString "__eq__") [b]) (wpAny_mono one (fun r s' hr => by
          obtain ⟨c, rfl, hq⟩ := hr
          repeat (first | exact hq | exact wpAny_pure hq | exact wpAny_truthy_bool hq | (refine wpAny_bind (m := truthy (.bool _)) (wpAny_truthy_bool ?_)) | wp_step)) fun _ _ e => e))
    | wp_step)
end
end RX
set_option maxRecDepth 100000
set_option maxHeartbeats 4000000
/-! !=, bool(..) and calls by keyword of own classes; defs that are entered where nothing is being shown. -/
namespace RX
open PySem PySem.Spec PyProof.Rows L2
section
open PySem.W
variable {prog : Program} {w : World} {A : Around} {E : Value → Shared → Prop} {s : Shared} {K : Frag} {x C L f : Addr} {h₀ : Heap} {m : Str → Option Value} {ox : Obj} {od : Option Obj} {b tb : Value}
theorem ne_slot : Slot "object" "__ne__" "object.__ne__" := PySem.F.slot_object_ne
/-- a special method that is a builtin of the class's line -/
theorem ifBound_B {M : Model} {name : Str} {id : String} {args : List Value} {Q : Option Value → Shared → Prop} (X : K.In s.heap) (I : InstAt s.heap x ox C od) (hs : findIn K (.ref C) name = some (some (.builtin id))) (hb : bindSpecial (.builtin id) (.ref x) = pure (.builtin id, [.ref x]))
    (h : wpAny M A (call (.builtin id) (.ref x :: args)) (fun v => Q (some v)) E s) : wpAny M A (callSpecialIfBound? (.ref x) name args) Q E s := by
  have told : wpAny M A (do let v ← call (.builtin id) ([.ref x] ++ args); pure (some v)) Q E s := wpAny_bind (thn h fun _ _ q => wpAny_pure q)
  simp only [callSpecialIfBound?, bindSpecialIfBound?]
  apply wpAny_holding
  refine wpAny_bind (wpAny_bind (wpAny_bind (I.type.here ((looks_findIn X hs).here ?_))))
  simp only [hb]
  refine wpAny_bind (wpAny_askSetting (wpAny_ite ?_))
  split <;> first
    | exact wpAny_bind (wpAny_pure (wpAny_pure told))
    | exact wpAny_tryCatch (wpAny_bind (wpAny_pure (wpAny_pure told)))
theorem ne_K {Q : Value → Shared → Prop} (hu : A.units + 1 < cLine) (F : Fr h₀ L s.heap m) (X₀ : K.In h₀) (I : InstAt s.heap x ox C od) (hb : Looks (model prog w) s.heap (typeOf b) tb) (hn : notFirst K C tb = true)
    (h1 : findIn K (.ref C) "__ne__" = some (some (.builtin "object.__ne__"))) (hs : findIn K (.ref C) "__eq__" = some (some (.ref f))) (hf : isFn K (.ref f) = true) (ho : mroIn K C (.type "object") = some true)
    (h : wpAny (model prog w) A.in1 (call (.ref f) [.ref x, b]) (fun v s' => ∃ c, v = .bool c ∧ Q (.bool (!c)) s') E s) : wpAny (model prog w) A (richCompare .NotEq (.ref x) b) Q E s := by
  have X := X₀.keeps F.keep
  have anObject : Looks (model prog w) s.heap (isInstance (.ref x) (.type "object")) true := I.type.andThen (looks_mroIn X ho)
  -- object.__ne__ asks __eq__ and turns it round
  have turned : wpAny (model prog w) A (call (.builtin "object.__ne__") [.ref x, b]) (fun v s' => ∃ c, v = .bool c ∧ Q (.bool c) s') E s :=
    wpAny_call (codeAny_call_builtin ne_slot.plain PySem.F.cmpEntry_ne (check_slot PySem.F.cmpKind_ne PySem.F.cmpSplit_ne anObject (PySem.F.cmpArgs_ne _ _)
      (ne_entry X I hs hf (A := A.in1) hu (thn h fun _ _ ⟨c, e, q⟩ => ⟨c, e, ⟨!c, rfl, q⟩⟩))))
  have asked : wpAny (model prog w) A (tryCompare (.ref x) (cmpInfo .NotEq).2.1 b) (fun r s' => ∃ c, r = some (.bool c) ∧ Q (.bool c) s') E s := by
    simp only [tryCompare]
    exact wpAny_bind (ifBound_B X I h1 (ne_slot.bind _) (thn turned fun _ _ ⟨c, e, q⟩ => by subst e; exact wpAny_pure ⟨c, rfl, q⟩))
  have rest : ∀ {g : Option Value → Sem Value}, (∀ v s', Q v s' → wpAny (model prog w) A (g (some v)) Q E s') → wpAny (model prog w) A (tryCompare (.ref x) (cmpInfo .NotEq).2.1 b >>= g) Q E s := fun hg =>
    wpAny_bind (thn asked fun r s' ⟨c, e, q⟩ => e ▸ hg _ s' q)
  simp only [richCompare, oneThing_ref]
  apply wpAny_holding
  refine wpAny_bind (wpAny_cRoomFor (by omega) (wpAny_bind (I.type.here (wpAny_bind (hb.here ?_)))))
  split
  · next q =>
    have e : subIn K tb (.ref C) = some false := (Bool.or_eq_true_iff.mp hn).elim (fun z => by rw [beq_iff_eq.mp z] at q; simp at q) fun z => beq_iff_eq.mp z
    refine wpAny_bind ((looks_subIn X e).here ?_)
    simp only [Bool.false_eq_true, if_false]
    exact rest fun v s' z => wpAny_pure z
  · refine wpAny_bind (wpAny_pure ?_)
    simp only [Bool.false_eq_true, if_false]
    exact rest fun v s' z => wpAny_pure z
theorem bool_new (x : Addr) : MeetsIn prog w (Builtin.«bool.__new__» ⟨[.type "bool", .ref x], []⟩) (fun A R s => wpAny (model prog w) A.in1 (truthy (.ref x)) (fun b s1 => R (.ok (.ret (.bool b))) s1) (fun e s1 => R (.error e) s1) s) :=
  .of_wp fun A R s h => by
    obtain ⟨hp, g, d, tk, os⟩ := s
    have f1 := PySem.F.conv_sub_bool
    repeat (any_goals (first | assumption | (with_reducible refine wpAny_mono h (fun b s1 z => ?_) (fun _ _ z => z)) | wp_step))
    all_goals first | exact ⟨_, rfl, z⟩ | skip
theorem call_bool_ref {x : Addr} {Q : Value → Shared → Prop} (h : wpAny (model prog w) A.in1.in1 (truthy (.ref x)) (fun b s1 => Q (.bool b) s1) E s) : wpAny (model prog w) A (call (.type "bool") [.ref x]) Q E s := by
  refine callType_newIn PySem.F.called_bool PySem.F.newNe_bool (PySem.F.typeCall_bool_1 _) (PySem.F.newCall_bool_1 _) (fun obj => PySem.F.args_object_init_2 obj _) PySem.F.entry_bool_new (bool_new x) ?_
  show wpAny (model prog w) A.in1.in1 (truthy (.ref x)) _ _ _
  refine wpAny_mono h (fun b s1 q => ?_) fun _ _ z => z
  show _ ∧ _
  exact ⟨rfl, q⟩
end

section
variable {X : Cx} {CX : CXT} {k : Nat} {f C : Addr} {fd : FuncData} {ps : List Str} {sp : Sp} {E : XK}
/-- x != y, both of the class at C, by its own == -/
def rNeO (K : PySem.W.Frag) (C : Addr) (sp : Sp) (E : XK) : R2 := fun x y H Q => ∃ a dx fs t, x = .ref a ∧ H a = some (.ins C dx fs) ∧ TyOf K H y t ∧ PySem.W.notFirst K C t = true ∧ sp [.ref a, y] H (fun v H' => ∃ c, v = .bl c ∧ Q (.bl (!c)) H') E
theorem op_neO (F : FnOk X.prog X.w X.K X.mg X.base CX k f fd ps sp) (O : Own X.K C f "__eq__") (h1 : PySem.W.findIn X.K (.ref C) "__ne__" = some (some (.builtin "object.__ne__"))) (ho : PySem.W.mroIn X.K C (.type "object") = some true)
    (hr : Room (k + 1) X.A) (hb : Binds X.K fd ps []) (hx : Passes CX X E) : OpR X (compareOp .NotEq) (rNeO X.K C sp E) := by
  intro pins s σ H x y v u Q I rx ry h
  obtain ⟨a, dx, fs, t, rfl, ea, ty, hn, q⟩ := h
  cases rx
  obtain ⟨_, _, J⟩ := inst_at I ea
  obtain ⟨m, hF⟩ := I.fr
  show wpAny _ _ (richCompare .NotEq (.ref a) u) _ _ _
  refine ne_K (hu_of hr) hF I.ok.mod.kin J (ty_looks I ry ty) hn h1 O.at_ O.fn ho ?_
  refine wpAny_mono (run_sub (vs := [.ref a, y]) F hr.in1 rfl hb hx I (.cons rfl (.cons ry .nil)) q) (fun r s' z => ?_) fun _ _ z => z
  obtain ⟨w, H', I', rv, c, rfl, q'⟩ := z
  cases rv
  exact ⟨c, rfl, .bl (!c), H', I', rfl, q'⟩
/-- bool(x) of an instance, by its own __bool__ -/
def rBoolO (C : Addr) (sp : Sp) (E : XK) : List V → Hp → VK → Prop := fun xs H Q => ∃ a dx fs, xs = [.ref a] ∧ H a = some (.ins C dx fs) ∧ sp [.ref a] H (fun v H' => ∃ c, v = .bl c ∧ Q (.bl c) H') E
theorem call_boolO (F : FnOk X.prog X.w X.K X.mg X.base CX k f fd ps sp) (O : Own X.K C f "__bool__") (hr : Room (k + 2) X.A) (hb : Binds X.K fd ps []) (hx : Passes CX X E) : CallR X (.type "bool") (rBoolO C sp E) := by
  intro pins s σ H xs us Q I r h
  obtain ⟨a, dx, fs, rfl, ea, q⟩ := h
  obtain rfl := Vals.ref1 r
  obtain ⟨_, _, J⟩ := inst_at I ea
  obtain ⟨m, hF⟩ := I.fr
  refine call_bool_ref (PySem.W.truthy_K hF I.ok.mod.kin J O.at_ O.fn ?_)
  refine wpAny_mono (run_sub (vs := [.ref a]) F hr.in1.in1 rfl hb hx I (.cons rfl .nil) q) (fun r s' z => ?_) fun _ _ z => z
  obtain ⟨w, H', I', rv, c, rfl, q'⟩ := z
  cases rv
  exact ⟨.bl c, H', I', rfl, q'⟩
end
/-! ### o.m(k = v), C.m(k = v) -/
/-- o.m(k = v, ..) -/
def tMethK (C : Addr) (m : Str) (sp : Sp) (gV : List V → List V → List V) (E : XK) (ta : TE) (tk : TA) : TE := fun σ H Q => ta σ H fun x H1 => ∃ a dx fs, x = .ref a ∧ H1 a = some (.ins C dx fs) ∧ fs.lookup m = none ∧ tk σ H1 fun zs H2 => sp (gV [x] zs) H2 Q E
section
variable {X : Cx} {CX : CXT} {k : Nat} {f C p g : Addr} {mc : Value} {fd : FuncData} {ps ks : List Str} {sp : Sp} {E : XK} {o : Expr} {kws : List Keyword} {m : Str} {pos apos : Pos} {ta : TE} {tk : TA} {pl : Sem Bool} {gB : List Value → List Value → List Value} {gV : List V → List V → List V}
theorem pe_methK (he : PE X o ta) (c : Cls X.K C) (hm : Meth X.K C m f) (F : FnOk X.prog X.w X.K X.mg X.base CX k f fd ps sp) (hr : Room k X.A) (hb : KBinds X.K fd ps ks gB gV) (hx : Passes CX X E) (hkw : PK X kws tk)
    (hall : (backToKw pos (keywordEach kws X.env)).all (·.1.isSome) = true := by rfl) (hks : (backToKw pos (keywordEach kws X.env)).filterMap (·.1) = ks := by rfl)
    (hpl : ((backTo pos (starEach [] X.env)).any (·.1) || (backToKw pos (keywordEach kws X.env)).any (·.1.isNone)) = false := by rfl)
    (ht : eval (.Call (.Attribute o m apos) [] kws pos) X.env = (do
      let ov ← eval o X.env
      standAt apos.atName
      let (f, first) ← holding [ov] (getMethod ov m pl)
      callWith pos f first (backTo pos (starEach [] X.env)) (backToKw pos (keywordEach kws X.env))) := by rfl) :
    PE X (.Call (.Attribute o m apos) [] kws pos) (tMethK C m sp gV E ta tk) := by
  refine ⟨fun pins s σ H Q I h => ?_⟩
  refine PySem.W.methodCall_KW (pl := pl) (thn (he.run pins s σ H _ I h) fun u s1 ⟨x, H1, I1, rx, a, dx, fs, ex, ea, l, q⟩ => ?_) ht
  subst ex
  obtain rfl : u = Value.ref a := rx
  refine getmeth_ok I1 ea c hm l ?_
  refine PySem.W.callWith_KW0 (first := [.ref a]) (h₀ := X.base) I.ok.mod.kin hm.kp hall ?_ hpl
  refine thn (hkw.run pos pins s1 σ H1 _ I1 q) fun ws s2 ⟨zs, H2, I2, rz, q2⟩ => ⟨I2.kIn, ?_⟩
  rw [hks]
  exact run_fnk (us := [.ref a]) (vs := [.ref a]) F hr hb hx I2 (.cons rfl .nil) rz q2
end
/-! ### defs that are entered where nothing is being shown (repr asks that) -/
structure FnG (P : Program) (w : World) (K : PySem.W.Frag) (mg : Str → Option Value) (base : Heap) (k : Nat) (f : Addr) (fd : FuncData) (ps : List Str) (sp : Sp) : Prop where
  len : ∀ vs H Q E, sp vs H Q E → vs.length = ps.length
  run : ∀ (A : Around) (outer : List Env) (s : Shared) (H : Hp) (args : Args) (us : List Value) (vs : List V) (Q : VK) (E : XK), Room k A → A.guards = some [] → Env0 P w K mg base A outer s H → BindsTo s fd args (ps.zip us) → Vals vs us → sp vs H Q E →
    codeAny (model P w) A (.call (.ref f) args) (CR CX0 outer P w H s Q E) s
section
variable {X : Cx} {k : Nat} {f : Addr} {fd : FuncData} {ps : List Str} {sp : Sp} {x : Str} {p pos : Pos} {e : Expr} {es : List Expr} {t : TA}
theorem pe_callG (F : FnG X.prog X.w X.K X.mg X.base k f fd ps sp) (hr : Room k X.A) (hgd : X.A.guards = some []) (hg : Gl X x) (hm : X.mg x = some (.ref f)) (hk : PySem.W.keepIn X.K (.ref f) = true) (hb : Binds X.K fd ps [])
    (ha : PA X (e :: es) t) (hdb : (x == ("__debug__" : Str)) = false := by decide) (he : starEach (e :: es) X.env = (false, eval e X.env) :: starEach es X.env := by rfl) (hpl : (backTo pos (starEach es X.env)).any (·.1) = false := by rfl) :
    PE X (.Call (.Name x p) (e :: es) [] pos) (tCall sp [] E0 t) := by
  refine ⟨fun pins s σ H Q I h => ?_⟩
  refine wpAny_Call_Name_kw (ld_glob I hg hm ?_ hdb)
  refine PySem.W.callWith_K (h₀ := X.base) I.ok.mod.kin hk (thn (ha.run pos pins s σ H _ I h) fun us s1 ⟨vs, H1, I1, r, q⟩ => ⟨I1.kIn, ?_⟩) he hpl
  have q : sp (vs ++ []) H1 Q E0 := q
  rw [List.append_nil] at q
  have hl : us.length = ps.length := by rw [← r.length]; exact F.len _ _ _ _ q
  refine wpAny_call (codeAny_mono (F.run X.A X.stack s1 H1 ⟨us, []⟩ us vs Q E0 hr hgd I1.env0 (by
    have := hb s1 us I1.kIn (by simpa using hl)
    simpa using this) r q) fun r s' hq => ?_)
  cases r with
  | error e => exact False.elim hq
  | ok fl =>
    cases fl with
    | ret u => exact I1.after hq
    | next => exact False.elim hq
    | brk => exact False.elim hq
    | cont => exact False.elim hq
end
section
variable {P : Program} {w : World} {K : PySem.W.Frag} {mg : Str → Option Value} {base : Heap}
theorem fnG_of {x qual : Str} {st : Stmt} {f : Addr} {fd : FuncData} {N ps : List Str} {k : Nat} {sp : Sp} (F : Fun K x qual st f fd) (S : FnScope N ps (defScope st)) (len : ∀ vs H Q E, sp vs H Q E → vs.length = ps.length)
    (hbody : ∀ (cdv : Value) (A : Around) (outer : List Env) (s : Shared) (H : Hp) (vs : List V) (Q : VK) (E : XK), Room k (A.deeper (envOfC qual (defScope st) s.heap.objs.size f cdv)) → (A.deeper (envOfC qual (defScope st) s.heap.objs.size f cdv)).guards = some [] → sp vs H Q E →
      ∃ t, PSs (cxOf CX0 P w K mg base N qual (defScope st) f cdv A outer s H E).nox (defBody st) t ∧ t { nx := fun _ H' => Q .non H', rt := Q } (start N vs) H) : FnG P w K mg base (k + 1) f fd ps sp := by
  obtain ⟨oc, od, kV, doc, pm, an, cdv, ct, osl, rfl, lk, hcd⟩ := F.ex
  refine ⟨len, fun A outer s H args us vs Q E hr hgd e0 hb r hsp => ?_⟩
  exact XO.run_at lk hcd S hr e0 hb r (len _ _ _ _ hsp) fun hr' => hbody cdv A outer s H vs Q E hr' hgd hsp
end
end RX
set_option maxRecDepth 100000
set_option maxHeartbeats 4000000
/-! Except clauses one by one: what is caught, what one clause does with it; an own error made without arguments; a classmethod called by keyword. -/
namespace RX
open PySem PySem.Spec PyProof.Rows L2
abbrev Suite := Addr → Value → Option Addr → TS
/-- the ends of a suite whose name, at slot i, goes -/
abbrev gone (i : Nat) (D : Ends) : Ends := { nx := fun σ' H' => D.nx (σ'.set i none) H', rt := D.rt, bk := fun σ' H' => D.bk (σ'.set i none) H', ct := fun σ' H' => D.ct (σ'.set i none) H' }
/-- what clauses with names wish of an exception, from the first on -/
def wNames (K : PySem.W.Frag) (n : Nat) (Wout : WX) (D : Ends) : List (Value × Nat × Suite) → WX
  | [] => Wout
  | q :: r => fun cls d σ H => ∃ b, PySem.W.exmOne K cls q.1 = some b ∧
      (b = true → ∀ a, H a = none → σ.length = n → q.2.2 a cls d (gone q.2.1 D) (σ.set q.2.1 (some (.ref a))) H) ∧ (b = false → wNames K n Wout D r cls d σ H)
section
variable {X : Cx} {pins : List (Addr × Obj)} {σ : L2.St} {H : Hp} {a : Addr} {cls : Value} {d : Option Addr} {s : Shared}
/-- an exception of class cls is in this frame's hand: the state without it, and what it has left as it was -/
structure Cgt (X : Cx) (pins : List (Addr × Obj)) (σ : L2.St) (H : Hp) (a : Addr) (cls : Value) (d : Option Addr) (B : Heap) (s0 s : Shared) : Prop where
  I : Inv X pins σ H s0
  gr : ∀ b o, s0.heap.get? b = some o → b ∉ frs X.stack → B.get? b = some o
  up : s0.heap.UpToSlots s.heap
  fl : HandSPX.FlyingZ B X.stack a (Zc cls d) s.heap
  na : H a = none
  os : s.os = s0.os
  ag : AllBare s.gens
variable {B : Heap} {s0 : Shared}
theorem Cgt.inv (c : Cgt X pins σ H a cls d B s0 s) : Inv X pins σ H s := c.I.landed c.gr c.fl.1 c.up c.os c.ag
/-- the flight told once more to be over -/
theorem Cgt.rest (c : Cgt X pins σ H a cls d B s0 s) {A : Around} {Q : Unit → Shared → Prop} {E : Value → Shared → Prop} (h : ∀ s', Cgt X pins σ H a cls d B s0 s' → Q () s') : wpAny (model X.prog X.w) A (setFlight (.ref a) none) Q E s :=
  HandSPX.lands_againZ c.fl fun _ fl' u' => h _ { c with up := c.up.trans u', fl := fl' }
/-- its object, and the state in which a suite runs -/
theorem Cgt.obj (c : Cgt X pins σ H a cls d B s0 s) (hf : X.env.frame = some X.env.locals) (hs : X.stack = X.env :: X.outer) :
    ∃ oe vs, s.heap.get? a = some oe ∧ Zc cls d oe ∧ oe.data = .fields vs ∧ Inv (X.suite a ((a, oe) :: (X.pn ++ pins))) [] σ H s := by
  obtain ⟨oe, vs, e1, e2, e3⟩ := c.fl.there
  have off : a ∉ frs X.stack := fun hm => by
    obtain ⟨_, o', g, nf⟩ := Heap.FunFrames.mem c.fl.2.2.1 hm
    cases e1.symm.trans g
    exact nf _ e3
  rw [hs] at off
  have off' : ∀ v ∈ X.env :: X.outer, v.frame ≠ some a := fun v hv q => off (List.mem_filterMap.mpr ⟨v, hv, q⟩)
  exact ⟨oe, vs, e1, e2, e3, c.inv.suite e1 e3 c.na (fun q => off' _ (.head _) (by rw [hf, q])) fun hm =>
    let ⟨v, hv, q⟩ := List.mem_filterMap.mp hm
    off' v (.tail _ hv) q⟩
/-- nobody wanted it: it goes on from this frame -/
theorem Cgt.pass (c : Cgt X pins σ H a cls d B s0 s) (hf : X.env.frame = some X.env.locals) {W : WX} (tk : Takes X W) (w : W cls d σ H) {r : String} {Q : Flow → Shared → Prop} : wpAny (model X.prog X.w) X.A (passOn r (.ref a) X.env) Q X.xe s := by
  obtain ⟨oe, vs, T, _, _, g1, _, g2, g3, _⟩ := c.fl.2.2.2
  have away : wpAny (model X.prog X.w) X.A (setFlight (.ref a) X.env.frame) (fun _ s' => wpAny (model X.prog X.w) X.A (throw (.ref a) : Sem Flow) Q X.xe s') X.xe s := by
    rw [hf]
    exact HandSPX.setFlight_upZ c.fl fun _ hd u' => wpAny_throw (tk _ _ ⟨a, B, s0, pins, σ, H, cls, d, rfl, c.I, c.gr, c.up.trans u', .inr (.inr hd), c.na, c.os, c.ag, w⟩)
  have tn : (Value.ref T == Value.none) = false := rfl
  simp only [PySem.passOn]
  refine wpAny_bind (wpAny_field g1 g2 g3 ?_)
  simp only [tn, Bool.false_eq_true, if_false]
  first
    | exact wpAny_bind away
    | exact wpAny_bind (wpAny_pure (wpAny_bind away))
/-- behind the body, behind a suite: the same state, in the try's own context -/
theorem SP.out {X' : Cx} {ps : List (Addr × Obj)} {D : Ends} (h : ∀ {σ' H' s'}, Inv X' ps σ' H' s' → Inv X pins σ' H' s') : ∀ {f : Flow} {s' : Shared}, SP X' ps D f s' → SP X pins D f s'
  | .next, _, ⟨_, _, J, q⟩ => ⟨_, _, h J, q⟩
  | .brk, _, ⟨_, _, J, q⟩ => ⟨_, _, h J, q⟩
  | .cont, _, ⟨_, _, J, q⟩ => ⟨_, _, h J, q⟩
  | .ret _, _, ⟨_, _, _, J, r, q⟩ => ⟨_, _, _, h J, r, q⟩
/-- clauses that do w with what is caught -/
def Hb (X : Cx) (hds : List ExceptHandler) (w : Ends → WX) : Prop := ∀ pins σ H a cls d B s0 s D, Cgt X pins σ H a cls d B s0 s → w D cls d σ H → wpAny (model X.prog X.w) X.A (handleBy (.ref a) X.env hds) (SP X pins D) X.xe s
end
section
variable {X : Cx} {hds : List ExceptHandler} {w w' : Ends → WX}
theorem Hb.weak (h : Hb X hds w) (i : ∀ D cls d σ H, w' D cls d σ H → w D cls d σ H) : Hb X hds w' := fun _ _ _ _ _ _ _ _ _ _ c q => h _ _ _ _ _ _ _ _ _ _ c (i _ _ _ _ _ q)
theorem hb_nil (hf : X.env.frame = some X.env.locals) {W : WX} (tk : Takes X W) : Hb X [] fun _ => W := fun _ _ _ _ _ _ _ _ _ _ c q => wpAny_handleBy_nil (c.pass hf tk q)
/-- except x as n: suite; n is at slot i -/
theorem hb_as (hs : X.stack = X.env :: X.outer) (hf : X.env.frame = some X.env.locals) (hN : X.N.Nodup) {x n : Str} {i : Nat} {cv : Value} {ts : Suite} {b₀ : Stmt} {suite : List Stmt} {np pos : Pos} (hi : X.N[i]? = some n) (hln : X.env.kindOf n = some .local) (hc : Names X x cv)
    (hsu : ∀ (a : Addr) (oe : Obj) (cls : Value) (d : Option Addr) (pn : List (Addr × Obj)), Zc cls d oe → (∃ vs, oe.data = .fields vs) → PSs (X.suite a ((a, oe) :: pn)) (b₀ :: suite) (ts a cls d)) (hr : Hb X hds w) :
    Hb X (.ExceptHandler (some (.Name x np)) (some n) (b₀ :: suite) pos :: hds) fun D cls d σ H => ∃ b, PySem.W.exmOne X.K cls cv = some b ∧
      (b = true → ∀ a, H a = none → σ.length = X.N.length → ts a cls d (gone i D) (σ.set i (some (.ref a))) H) ∧ (b = false → w D cls d σ H) := by
  intro pins σ H a cls d B s0 s D c ⟨b, eb, yes, no⟩
  obtain ⟨oe, _, e1, e2, _, J⟩ := c.obj hf hs
  have tyE : PySem.W.Looks (model X.prog X.w) s.heap (typeOf (.ref a)) cls := fun _ _ _ _ k q => wpAny_typeOf_ref (k _ _ e1) (e2.1 ▸ q)
  have isIt := PySem.W.exm_one (M := model X.prog X.w) c.inv.kIn tyE eb
  -- the class is read in the suite's context, and asked
  have ask : ∀ {Q : Bool → Shared → Prop} {E1 E2 : Value → Shared → Prop}, Q b s → wpAny (model X.prog X.w) (X.A.mark (some (.ref a))) (eval (.Name x np) X.env) (fun cv' s1 => wpAny (model X.prog X.w) (X.A.mark (some (.ref a))) (excMatches (.ref a) cv') Q E1 s1) E2 s := fun {Q E1 E2} q =>
    hc.2.2.elim (fun hm => ld_glob J hc.1 hm (isIt.here q) hc.2.1) fun hm => ld_blt J hc.1 hm.1 hm.2.1 (isIt.here q) hm.2.2 hc.2.1
  refine wpAny_handleBy_cons (codeAny_handlers_test (ask ?_)) nofun
  by_cases hb : b = true
  · subst hb
    -- the suite, with the name; behind it the name is gone
    have goes : ∀ {σ1 : L2.St} {H1 : Hp} {s1 : Shared} {Q : Shared → Prop} {q : Addr × Obj}, Inv (X.suite a (q :: (X.pn ++ pins))) [] σ1 H1 s1 → (∀ s2, Inv X pins (σ1.set i none) H1 s2 → Q s2) →
        wpAny (model X.prog X.w) X.A (do bindName X.env n .none; unbindBehindTheSuite X.env n pos) (fun _ s2 => Q s2) X.xe s1 := fun J1 h => gone_ok (J1.unsuite c.I.ok) hN hi hln h
    refine codeAny_handlers_suite_as (c.rest fun s1 c1 => ?_)
    obtain ⟨o1, _, f1, f2, f3, J1⟩ := c1.obj hf hs
    refine store_ok (X := X.suite a ((a, o1) :: (X.pn ++ pins))) (v := .ref a) J1 hN hi (.inl hln) rfl (fun s2 J2 => wpAny_mono ((hsu a o1 cls d _ f2 ⟨_, f3⟩).run [] s2 _ H (gone i D) J2 (yes rfl a c.na c.I.len)) (fun f s3 z => ?_) fun _ _ z => z.elim) (.inr hln)
    cases f with
    | ret u =>
      obtain ⟨_, _, _, J3, r3, q3⟩ := z
      exact goes J3 fun _ J4 => ⟨_, _, _, J4, r3, q3⟩
    | next =>
      obtain ⟨_, _, J3, q3⟩ := z
      exact goes J3 fun _ J4 => ⟨_, _, J4, q3⟩
    | cont =>
      obtain ⟨_, _, J3, q3⟩ := z
      exact goes J3 fun _ J4 => ⟨_, _, J4, q3⟩
    | brk =>
      obtain ⟨_, _, J3, q3⟩ := z
      exact goes J3 fun _ J4 => ⟨_, _, J4, q3⟩
  · obtain rfl : b = false := by simpa using hb
    exact hr _ _ _ _ _ _ _ _ _ _ c (no rfl)
/-- try: body, with such clauses -/
theorem ps_try_hb (hs : X.stack = X.env :: X.outer) (hf : X.env.frame = some X.env.locals) {h₀ : ExceptHandler} {body : List Stmt} {tb : WX → TS} {pos : Pos} (hh : Hb X (h₀ :: hds) w)
    (hb : ∀ (W : WX) (pn : List (Addr × Obj)) (xe : Value → Shared → Prop), Takes (X.tr pn xe) W → PassesOwn (model X.prog X.w) X.A X.env xe → PSs (X.tr pn xe) body (tb W)) : PS X (.Try body (h₀ :: hds) [] [] pos) (fun D => tb (w D) D) := by
  constructor
  intro pins s σ H D I h
  have fr : X.A.frames = some (X.env :: X.outer) := by rw [I.ok.frames, hs]
  apply wpAny_Try_except
  refine wpAny_mono ((hb (w D) (X.pn ++ pins) _ (fun e s1 x => ?_) PassesOwn.looking).run [] s σ H D (I.toTry _) h) (fun f s1 z => ?_) fun _ _ z => z
  · obtain ⟨a, B, s0, ps, σ1, H1, cls, d, rfl, J, gr, up, sky, na, os, ag, q⟩ := x
    have J0 : Inv X pins σ1 H1 s0 := J.ofTry I.ok
    have sky1 : Sky B (X.env :: X.outer) a (Zc cls d) X.env.locals s1.heap := hs ▸ sky
    exact Sky.land Zc.steady fr hf sky1 fun h' fl u' => hh _ _ _ _ _ _ B s0 _ D ⟨J0, gr, up.trans u', by rw [hs]; exact fl, na, os, ag⟩ q
  · have z := SP.out (pins := pins) (X := X) (fun J => J.ofTry I.ok) z
    cases f with
    | next => exact wpAny_execs_nil z
    | _ => exact z
/-- clauses with names, as a list -/
def HdsN (X : Cx) (hds : List ExceptHandler) (l : List (Value × Nat × Suite)) : Prop := X.stack = X.env :: X.outer → X.env.frame = some X.env.locals → X.N.Nodup → ∀ Wout, Takes X Wout → Hb X hds fun D => wNames X.K X.N.length Wout D l
theorem HdsN.nil : HdsN X [] [] := fun _ hf _ _ tk => hb_nil hf tk
theorem HdsN.cons {x n : Str} {i : Nat} {c : Value} {ts : Suite} {b₀ : Stmt} {suite : List Stmt} {np pos : Pos} {l : List (Value × Nat × Suite)} (hi : X.N[i]? = some n) (hln : X.env.kindOf n = some .local) (hc : Names X x c)
    (hsu : ∀ (a : Addr) (oe : Obj) (cls : Value) (d : Option Addr) (pn : List (Addr × Obj)), Zc cls d oe → (∃ vs, oe.data = .fields vs) → PSs (X.suite a ((a, oe) :: pn)) (b₀ :: suite) (ts a cls d)) (r : HdsN X hds l) :
    HdsN X (.ExceptHandler (some (.Name x np)) (some n) (b₀ :: suite) pos :: hds) ((c, i, ts) :: l) := fun hs hf hN W tk => hb_as hs hf hN hi hln hc hsu (r hs hf hN W tk)
theorem ps_try_names {body : List Stmt} {h₀ : ExceptHandler} {l : List (Value × Nat × Suite)} {pos : Pos} {tb : WX → TS} {Wout : WX} (hs : X.stack = X.env :: X.outer) (hf : X.env.frame = some X.env.locals) (hN : X.N.Nodup) (tk : Takes X Wout)
    (hb : ∀ (W : WX) (pn : List (Addr × Obj)) (xe : Value → Shared → Prop), Takes (X.tr pn xe) W → PassesOwn (model X.prog X.w) X.A X.env xe → PSs (X.tr pn xe) body (tb W))
    (hh : HdsN X (h₀ :: hds) l) : PS X (.Try body (h₀ :: hds) [] [] pos) (fun D σ H => tb (wNames X.K X.N.length Wout D l) D σ H) := ps_try_hb hs hf (hh hs hf hN Wout tk) hb
end
section
variable {X : Cx} {C : Addr} {bmB : List Value} {B newId initId : String}
/-- X(), an own exception class without an own __init__ -/
theorem pmk_own0 {x : Str} {p pos : Pos} (F : ExcBaseFacts B newId initId bmB) (q : PySem.W.excIn X.K C bmB newId = true) (gC : X.mg x = some (.ref C)) (kC : PySem.W.keepIn X.K (.ref C) = true) (r : Raises X (.ref C)) (hg : Gl X x)
    (hdb : (x == ("__debug__" : Str)) = false := by decide) : PMk X (.Call (.Name x p) [] [] pos) (fun _ H Q => Q (.ref C) none H) := by
  intro pins s σ H Q I h
  refine wpAny_Call_Name_kw (ld_glob I hg gC ?_ hdb)
  refine PySem.W.callWith_K0 I.kIn kC ?_
  show wpAny _ _ (call (.ref C) []) _ _ _
  obtain ⟨bm, N, nm, qn, bs, hdct, sn, sub, ab, col, dd, k0, k1, k2, k3, k5, mN, hC, hN, hni, T⟩ := exc_obj I.kIn q
  refine wpAny_call_exc_subT F T hC hN hni (fun h' e hm => ?_) (by show 0 ≤ sizeLine; rw [sizeLine_eq]; omega)
  exact mk_of I hm r h (I.hok.gone hm.new)
end
/-! ### C.m(k = v), m a classmethod -/
def tCMethK (C : Addr) (sp : Sp) (E : XK) (gV : List V → List V → List V) (ta : TE) (tk : TA) : TE := fun σ H Q => ta σ H fun x H1 => x = .ref C ∧ tk σ H1 fun zs H2 => sp (gV [.ref C] zs) H2 Q E
section
variable {X : Cx} {CX : CXT} {k : Nat} {C p g : Addr} {mc : Value} {fd : FuncData} {ps ks : List Str} {sp : Sp} {E : XK} {o : Expr} {kws : List Keyword} {m : Str} {pos apos : Pos} {ta : TE} {tk : TA} {pl : Sem Bool} {gB : List Value → List Value → List Value} {gV : List V → List V → List V}
theorem pe_cmethK (he : PE X o ta) (r : ClX.CRead X.K C mc) (c : ClX.CMet X.K C mc m p g) (F : FnOk X.prog X.w X.K X.mg X.base CX k g fd ps sp) (hr : Room k X.A) (hb : KBinds X.K fd ps ks gB gV) (hx : Passes CX X E) (hkw : PK X kws tk)
    (hall : (backToKw pos (keywordEach kws X.env)).all (·.1.isSome) = true := by rfl) (hks : (backToKw pos (keywordEach kws X.env)).filterMap (·.1) = ks := by rfl)
    (hpl : ((backTo pos (starEach [] X.env)).any (·.1) || (backToKw pos (keywordEach kws X.env)).any (·.1.isNone)) = false := by rfl)
    (ht : eval (.Call (.Attribute o m apos) [] kws pos) X.env = (do
      let ov ← eval o X.env
      standAt apos.atName
      let (f, first) ← holding [ov] (getMethod ov m pl)
      callWith pos f first (backTo pos (starEach [] X.env)) (backToKw pos (keywordEach kws X.env))) := by rfl) :
    PE X (.Call (.Attribute o m apos) [] kws pos) (tCMethK C sp E gV ta tk) := by
  refine ⟨fun pins s σ H Q I h => ?_⟩
  refine PySem.W.methodCall_KW (pl := pl) (thn (he.run pins s σ H _ I h) fun u s1 ⟨x, H1, I1, rx, ex, q⟩ => ?_) ht
  subst ex
  obtain rfl : u = Value.ref C := rx
  refine ClX.getmethcm_ok I1 r c fun s2 I2 => ?_
  have hq := ClX.pin_at I2
  refine PySem.W.callWith_of hpl (PySem.W.keeps_M (self := .ref C) c.fi) (PyProof.Rows.evalArgs_kw2_nil hall ?_)
  refine thn (hkw.run pos _ s2 σ H1 _ I2 q) fun ws s3 ⟨zs, H2, I3, rz, q2⟩ => ⟨⟨ClX.pin_at I3, I3.kIn⟩, ?_⟩
  rw [hks]
  show wpAny _ _ (call (.ref s1.heap.objs.size) [] (ks.zip ws)) _ _ _
  have z : wpAny (model X.prog X.w) X.A (call (.ref s1.heap.objs.size) [] (ks.zip ws)) (EP X ((s1.heap.objs.size, PySem.W.methodObj (.ref g) (.ref C)) :: pins) σ Q) X.xe s3 := by
    refine wpAny_call (PySem.W.method_call (ClX.pin_at I3) ?_)
    have r2 := hb.rel (.cons rfl .nil : Vals [V.ref C] [Value.ref C]) rz
    have hl : (gB [Value.ref C] ws).length = ps.length := by rw [← r2.length]; exact F.len _ _ _ _ q2
    refine codeAny_mono (F.run X.A X.stack s3 H2 ⟨[.ref C], ks.zip ws⟩ (gB [.ref C] ws) (gV [.ref C] zs) Q E hr I3.env0 (hb.to s3 [.ref C] ws I3.kIn hl) r2 q2) fun r s' hq => ?_
    cases r with
    | error e => exact hx _ σ H2 s3 e s' I3 hq
    | ok fl =>
      cases fl with
      | ret u => exact I3.after hq
      | next => exact False.elim hq
      | brk => exact False.elim hq
      | cont => exact False.elim hq
  exact thn z fun _ _ y => ClX.unpinE y
end
end RX
set_option maxRecDepth 100000
set_option maxHeartbeats 4000000
/-! Ratios: what the class's defs promise. -/
namespace RX
open PySem PySem.Spec PyProof.Rows L2
section
variable {σ : L2.St} {H : Hp} {te : TE} {v : V} {c : TT} {t1 t2 u : TS} {D : Ends} {i : Nat}
theorem sA_no (h : Ans c σ H false) (q : u D σ H) : tSeq (tIfS c t1 tNext) u D σ H := h _ (iteF q)
theorem sA_yes (h : Ans c σ H true) (q : t1 { D with nx := u D } σ H) : tSeq (tIfS c t1 t2) u D σ H := h _ (iteT q)
theorem sA_set (h : Val te σ H v) (q : u D (σ.set i (some v)) H) : tSeq (tAsg te (gName i)) u D σ H := h _ q
end
/-! ### lowest terms -/
def gc (u d : Int) : Int := if d < 0 then -((Nat.gcd u.natAbs d.natAbs : Nat) : Int) else ((Nat.gcd u.natAbs d.natAbs : Nat) : Int)
def tp (u d : Int) : Int := u.fdiv (gc u d)
def bt (u d : Int) : Int := d.fdiv (gc u d)
theorem gcd_pos {u d : Int} (h : d ≠ 0) : 0 < Nat.gcd u.natAbs d.natAbs := Nat.gcd_pos_of_pos_right _ (by omega)
theorem gc_ne {u d : Int} (h : d ≠ 0) : gc u d ≠ 0 := by
  have := gcd_pos (u := u) h
  unfold gc
  split <;> omega
theorem gc_le {u d : Int} {n : Nat} (h : d ≠ 0) (hd : d.natAbs < 2 ^ n) : (gc u d).natAbs < 2 ^ n := by
  have h1 : Nat.gcd u.natAbs d.natAbs ≤ d.natAbs := Nat.gcd_le_right _ (by omega)
  unfold gc
  split <;> omega
/-! ### // by any divisor that is not 0 -/
def CDivX (_ j : Int) : Prop := j ≠ 0 ∧ j.natAbs.log2 < 9000
theorem op_fdivX {X : Cx} : OpR X (binaryOp .FloorDiv) (rI CDivX fun i j => .int (i.fdiv j)) := opI fun i j _ _ _ _ _ hc q => floordiv_int hc.1 q (.inl (PyProof.noPylong_of_log2 hc.2))
theorem div_x {i j : Int} {b : Nat} (h : j ≠ 0) (hb : j.natAbs < 2 ^ b) (h0 : 0 < b) (h9 : b ≤ 9000) : CDivX i j := ⟨h, Nat.lt_of_lt_of_le (PySem.Flt.log2_lt_of h0 hb) h9⟩
/-! ### a fraction as an object -/
def flds (t b : Int) : List (Str × V) := [("top", .int t), ("bottom", .int b)]
theorem ne_tb : ¬ (("bottom" : Str) = "top") := by decide +kernel
theorem ne_bt : ¬ (("top" : Str) = "bottom") := by decide +kernel
theorem flds_top {t b : Int} : (flds t b).lookup ("top" : Str) = some (V.int t) := by
  unfold flds
  rw [List.lookup_cons, beq_self_eq_true]
theorem flds_bot {t b : Int} : (flds t b).lookup ("bottom" : Str) = some (V.int b) := by
  unfold flds
  rw [List.lookup_cons]
  rw [show (("bottom" : Str) == "top") = false from beq_false_of_ne ne_tb, List.lookup_cons, beq_self_eq_true]
theorem flds_put {t b : Int} : putF "bottom" (.int b) (putF "top" (.int t) []) = flds t b := by
  show (if ("top" : Str) = "bottom" then [(("top" : Str), V.int b)] else (("top" : Str), V.int t) :: putF "bottom" (V.int b) []) = _
  rw [if_neg ne_bt]
  rfl
theorem flds_no {t b : Int} {m : Str} (h1 : ¬ m = "top") (h2 : ¬ m = "bottom") : (flds t b).lookup m = none := by
  unfold flds
  rw [List.lookup_cons, show (m == ("top" : Str)) = false from beq_false_of_ne h1, List.lookup_cons, show (m == ("bottom" : Str)) = false from beq_false_of_ne h2]
  rfl
/-- v is a fraction of the class at C with this top and bottom -/
def RatP (C : Addr) (t b : Int) : LP.PV := fun v H => ∃ a dx, v = .ref a ∧ H a = some (.ins C dx (flds t b))
theorem stb_rat {C : Addr} {t b : Int} : LP.Stb (RatP C t b) := fun _ _ _ g ⟨a, dx, e, h⟩ => ⟨a, dx, e, g _ _ h⟩
/-! ### is it an integer -/
def intV : V → Bool
  | .int _ => true
  | _ => false
theorem intV_int {x : V} (h : intV x = true) : ∃ u, x = .int u := by
  cases x <;> first | exact ⟨_, rfl⟩ | cases h
/-- what isinstance says of a value, for int and bool -/
def KI (K : PySem.W.Frag) (H : Hp) (x : V) : Prop := ∃ t b1 b2, TyX K H x t ∧ PySem.W.kitOne K t (.type "int") = some b1 ∧ PySem.W.kitOne K t (.type "bool") = some b2 ∧ (b1 && !b2) = intV x ∧ (b1 = true → (∃ u, x = .int u) ∨ ∃ b, x = .bl b)
theorem ki_int {K : PySem.W.Frag} {H : Hp} (u : Int) : KI K H (.int u) := ⟨_, true, false, .base (.int u), kit_ty (by decide +kernel), kit_ty (by decide +kernel), rfl, fun _ => .inl ⟨u, rfl⟩⟩
theorem ki_non {K : PySem.W.Frag} {H : Hp} : KI K H .non := ⟨_, false, false, .base .non, kit_ty (by decide +kernel), kit_ty (by decide +kernel), rfl, fun h => Bool.noConfusion h⟩
theorem ki_bl {K : PySem.W.Frag} {H : Hp} (b : Bool) : KI K H (.bl b) := ⟨_, true, true, .base (.bl b), kit_ty (by decide +kernel), kit_ty (by decide +kernel), rfl, fun _ => .inr ⟨b, rfl⟩⟩
theorem ki_str {K : PySem.W.Frag} {H : Hp} (x : Str) : KI K H (.str x) := ⟨_, false, false, .base (.str x), kit_ty (by decide +kernel), kit_ty (by decide +kernel), rfl, fun h => Bool.noConfusion h⟩
theorem ki_lst {K : PySem.W.Frag} {H : Hp} {a : Addr} {xs : List V} (e : H a = some (.lst xs)) : KI K H (.ref a) := ⟨_, false, false, .base (.lst e), kit_ty (by decide +kernel), kit_ty (by decide +kernel), rfl, fun h => Bool.noConfusion h⟩
theorem ki_tup {K : PySem.W.Frag} {H : Hp} {a : Addr} {xs : List V} (e : H a = some (.tup xs)) : KI K H (.ref a) := ⟨_, false, false, .base (.tup e), kit_ty (by decide +kernel), kit_ty (by decide +kernel), rfl, fun h => Bool.noConfusion h⟩
theorem ki_dK {K : PySem.W.Frag} {H : Hp} {a : Addr} {kvs : List (Key × V)} (e : H a = some (.dK kvs)) : KI K H (.ref a) := ⟨_, false, false, .base (.dK e), kit_ty (by decide +kernel), kit_ty (by decide +kernel), rfl, fun h => Bool.noConfusion h⟩
/-- what isinstance says of a value, for the class at C: r -/
def KR (K : PySem.W.Frag) (C : Addr) (H : Hp) (x : V) (r : Bool) : Prop := ∃ t, TyX K H x t ∧ PySem.W.kitOne K t (.ref C) = some r
def spInt (K : PySem.W.Frag) : Sp := fun vs H Q _ => ∃ x, vs = [x] ∧ KI K H x ∧ Q (.bl (intV x)) H
/-- what stands of the class in the written part -/
structure RTx (K : PySem.W.Frag) (mg : Str → Option Value) (C CI CQ : Addr) : Prop where
  cl : Cls K C
  nT : NoAttr K C "top"
  nB : NoAttr K C "bottom"
  gR : mg "Ratio" = some (.ref C)
  gI : mg "InvalidRatio" = some (.ref CI)
  xI : PySem.W.excIn K CI [.type "ValueError", .type "Exception", .type "BaseException", .type "object"] "ValueError.__new__" = true
  kI : PySem.W.keepIn K (.ref CI) = true
  bI : PySem.W.subIn K (.ref CI) (.type "BaseException") = some true
  tI : PySem.W.typeIn K (.ref CI) = some (.type "type")
  gQ : mg "NoQuotient" = some (.ref CQ)
  xQ : PySem.W.excIn K CQ [.type "ValueError", .type "Exception", .type "BaseException", .type "object"] "ValueError.__new__" = true
  kQ : PySem.W.keepIn K (.ref CQ) = true
  bQ : PySem.W.subIn K (.ref CQ) (.type "BaseException") = some true
  tQ : PySem.W.typeIn K (.ref CQ) = some (.type "type")
  ha : PySem.W.findIn K (.ref C) "__class__" = some (some (.builtin "object.__class__"))
  hn : PySem.W.specialIn K (.builtin "object.__class__") "__get__" = some (some (.builtin "getset_descriptor.__get__"))
  ht : PySem.W.takesIn K (.builtin "object.__class__") = some true
  hm : PySem.W.mroIn K C (.type "object") = some true
  kInt : PySem.W.kitOne K (.ref C) (.type "int") = some false
  kBool : PySem.W.kitOne K (.ref C) (.type "bool") = some false
  kR : PySem.W.kitOne K (.ref C) (.ref C) = some true
  kOf : ∀ n ∈ ["NoneType", "bool", "int", "str", "list", "tuple", "dict"], PySem.W.kitOne K (.type n) (.ref C) = some false
  gcd : mg "gcd" = some (.builtin "math.gcd")
  isi : mg "isinstance" = none
  int : mg "int" = none
  bool : mg "bool" = none
theorem RTx.ty {K : PySem.W.Frag} {mg : Str → Option Value} {C CI CQ : Addr} (T : RTx K mg C CI CQ) {H : Hp} {a dx : Addr} {fs : List (Str × V)} (e : H a = some (.ins C dx fs)) : TyOf K H (.ref a) (.ref C) := .ins e T.cl T.ha T.hn T.ht T.hm
theorem RTx.ki {K : PySem.W.Frag} {mg : Str → Option Value} {C CI CQ : Addr} (T : RTx K mg C CI CQ) {H : Hp} {a dx : Addr} {fs : List (Str × V)} (e : H a = some (.ins C dx fs)) : KI K H (.ref a) := ⟨_, false, false, .base (T.ty e), T.kInt, T.kBool, rfl, fun h => Bool.noConfusion h⟩
theorem RTx.kr {K : PySem.W.Frag} {mg : Str → Option Value} {C CI CQ : Addr} (T : RTx K mg C CI CQ) {H : Hp} {a dx : Addr} {fs : List (Str × V)} (e : H a = some (.ins C dx fs)) : KR K C H (.ref a) true := ⟨_, .base (T.ty e), T.kR⟩
end RX
/-! Lowest terms: mathematics. -/
namespace RX
theorem gc_dvd_u (u d : Int) : gc u d ∣ u := by
  have h : ((Nat.gcd u.natAbs d.natAbs : Nat) : Int) ∣ u := Int.ofNat_dvd_left.mpr (Nat.gcd_dvd_left _ _)
  unfold gc
  split
  · exact Int.neg_dvd.mpr h
  · exact h
theorem gc_dvd_d (u d : Int) : gc u d ∣ d := by
  have h : ((Nat.gcd u.natAbs d.natAbs : Nat) : Int) ∣ d := Int.ofNat_dvd_left.mpr (Nat.gcd_dvd_right _ _)
  unfold gc
  split
  · exact Int.neg_dvd.mpr h
  · exact h
theorem u_eq (u d : Int) : gc u d * tp u d = u := by
  unfold tp
  rw [Int.fdiv_eq_ediv_of_dvd (gc_dvd_u u d), Int.mul_ediv_cancel' (gc_dvd_u u d)]
theorem d_eq (u d : Int) : gc u d * bt u d = d := by
  unfold bt
  rw [Int.fdiv_eq_ediv_of_dvd (gc_dvd_d u d), Int.mul_ediv_cancel' (gc_dvd_d u d)]
theorem gc_abs (u d : Int) : (gc u d).natAbs = Nat.gcd u.natAbs d.natAbs := by
  unfold gc
  split <;> omega
theorem bt_pos {u d : Int} (h : d ≠ 0) : 0 < bt u d := by
  have e := d_eq u d
  have g := gcd_pos (u := u) h
  rcases Int.lt_trichotomy (bt u d) 0 with z | z | z
  · by_cases hd : d < 0
    · have c : gc u d < 0 := by unfold gc; rw [if_pos hd]; omega
      have := Int.mul_pos_of_neg_of_neg c z
      omega
    · have c : 0 < gc u d := by unfold gc; rw [if_neg hd]; omega
      have := Int.mul_neg_of_pos_of_neg c z
      omega
  · rw [z, Int.mul_zero] at e
    exact absurd e.symm h
  · exact z
theorem low_cop {u d : Int} (h : d ≠ 0) : Nat.Coprime (tp u d).natAbs (bt u d).natAbs := by
  have g := gcd_pos (u := u) h
  have e1 : (gc u d).natAbs * (tp u d).natAbs = u.natAbs := by rw [← Int.natAbs_mul, u_eq]
  have e2 : (gc u d).natAbs * (bt u d).natAbs = d.natAbs := by rw [← Int.natAbs_mul, d_eq]
  rw [gc_abs] at e1 e2
  have e : Nat.gcd (Nat.gcd u.natAbs d.natAbs * (tp u d).natAbs) (Nat.gcd u.natAbs d.natAbs * (bt u d).natAbs) = Nat.gcd u.natAbs d.natAbs := by rw [e1, e2]
  rw [Nat.gcd_mul_left] at e
  have e' : Nat.gcd u.natAbs d.natAbs * Nat.gcd (tp u d).natAbs (bt u d).natAbs = Nat.gcd u.natAbs d.natAbs * 1 := by rw [e, Nat.mul_one]
  exact Nat.eq_of_mul_eq_mul_left g e'
theorem low_cross (u d : Int) : tp u d * d = u * bt u d := by
  have e1 := u_eq u d
  have e2 := d_eq u d
  generalize gc u d = c at *
  generalize tp u d = t at *
  generalize bt u d = b at *
  subst e1 e2
  rw [Int.mul_comm c t, Int.mul_assoc]
/-- two pairs in lowest terms with the same quotient are the same -/
theorem low_uniq {t b t' b' : Int} (hb : 0 < b) (hb' : 0 < b') (c : Nat.Coprime t.natAbs b.natAbs) (c' : Nat.Coprime t'.natAbs b'.natAbs) (e : t * b' = t' * b) : t = t' ∧ b = b' := by
  have en : t.natAbs * b'.natAbs = t'.natAbs * b.natAbs := by rw [← Int.natAbs_mul, ← Int.natAbs_mul, e]
  have h1 : b.natAbs ∣ b'.natAbs := c.symm.dvd_of_dvd_mul_left (en ▸ Nat.dvd_mul_left _ _)
  have h2 : b'.natAbs ∣ b.natAbs := c'.symm.dvd_of_dvd_mul_left (en ▸ Nat.dvd_mul_left _ _)
  have h3 := Nat.dvd_antisymm h1 h2
  have eb : b = b' := by omega
  subst eb
  exact ⟨Int.eq_of_mul_eq_mul_right (by omega) e, rfl⟩
theorem low_eq {u d u' d' : Int} (h : d ≠ 0) (h' : d' ≠ 0) (e : u * d' = u' * d) : tp u d = tp u' d' ∧ bt u d = bt u' d' := by
  refine low_uniq (bt_pos h) (bt_pos h') (low_cop h) (low_cop h') ?_
  have x := low_cross u d
  have x' := low_cross u' d'
  have k : (tp u d * bt u' d') * (d * d') = (tp u' d' * bt u d) * (d * d') := by
    calc (tp u d * bt u' d') * (d * d') = (tp u d * d) * (bt u' d' * d') := by ac_rfl
      _ = (u * bt u d) * (bt u' d' * d') := by rw [x]
      _ = (u * d') * (bt u d * bt u' d') := by ac_rfl
      _ = (u' * d) * (bt u d * bt u' d') := by rw [e]
      _ = (u' * bt u' d') * (bt u d * d) := by ac_rfl
      _ = (tp u' d' * d') * (bt u d * d) := by rw [x']
      _ = (tp u' d' * bt u d) * (d * d') := by ac_rfl
  exact Int.eq_of_mul_eq_mul_right (Int.mul_ne_zero h h') k
theorem low_iff {u d u' d' : Int} (h : d ≠ 0) (h' : d' ≠ 0) : (tp u d = tp u' d' ∧ bt u d = bt u' d') ↔ u * d' = u' * d := by
  refine ⟨fun ⟨a, b⟩ => ?_, low_eq h h'⟩
  have x := low_cross u d
  have x' := low_cross u' d'
  rw [a, b] at x
  have nb : bt u' d' ≠ 0 := Int.ne_of_gt (bt_pos h')
  refine Int.eq_of_mul_eq_mul_right nb ?_
  calc u * d' * bt u' d' = (u * bt u' d') * d' := by ac_rfl
    _ = (tp u' d' * d) * d' := by rw [← x]
    _ = (tp u' d' * d') * d := by ac_rfl
    _ = u' * bt u' d' * d := by rw [x']
    _ = u' * d * bt u' d' := by ac_rfl
theorem tp_le (u d : Int) : (tp u d).natAbs ≤ u.natAbs := by
  by_cases z : gc u d = 0
  · unfold tp
    rw [z, Int.fdiv_zero]
    exact Nat.zero_le _
  · have e : (gc u d).natAbs * (tp u d).natAbs = u.natAbs := by rw [← Int.natAbs_mul, u_eq]
    rw [← e]
    exact Nat.le_mul_of_pos_left _ (by omega)
theorem bt_le (u d : Int) : (bt u d).natAbs ≤ d.natAbs := by
  by_cases z : gc u d = 0
  · unfold bt
    rw [z, Int.fdiv_zero]
    exact Nat.zero_le _
  · have e : (gc u d).natAbs * (bt u d).natAbs = d.natAbs := by rw [← Int.natAbs_mul, d_eq]
    rw [← e]
    exact Nat.le_mul_of_pos_left _ (by omega)
theorem tp_zero {u d : Int} (h : d ≠ 0) : tp u d = 0 ↔ u = 0 := by
  have e := u_eq u d
  constructor
  · intro z
    rw [z, Int.mul_zero] at e
    exact e.symm
  · intro z
    rw [z] at e ⊢
    exact (Int.mul_eq_zero.mp e).resolve_left (gc_ne h)
/-- signs: the order of two fractions by their lowest terms, or by the written ones -/
theorem low_lt {u d u' d' : Int} (h : d ≠ 0) (h' : d' ≠ 0) : (tp u d * bt u' d' < tp u' d' * bt u d) ↔ (u * d' - u' * d) * d * d' < 0 := by
  have b := bt_pos (u := u) h
  have b' := bt_pos (u := u') h'
  have x := u_eq u d
  have y := d_eq u d
  have x' := u_eq u' d'
  have y' := d_eq u' d'
  have c := gc_ne (u := u) h
  have c' := gc_ne (u := u') h'
  generalize gc u d = g at *
  generalize tp u d = t at *
  generalize bt u d = s at *
  generalize gc u' d' = g' at *
  generalize tp u' d' = t' at *
  generalize bt u' d' = s' at *
  subst x y x' y'
  have e : (g * t * (g' * s') - g' * t' * (g * s)) * (g * s) * (g' * s') = (t * s' - t' * s) * (g * g * (g' * g') * (s * s')) := by
    rw [Int.sub_mul, Int.sub_mul, Int.sub_mul]
    congr 1 <;> ac_rfl
  rw [e]
  have pp : ∀ z : Int, z ≠ 0 → 0 < z * z := fun z hz => by
    rcases Int.lt_or_gt_of_ne hz with q | q
    · exact Int.mul_pos_of_neg_of_neg q q
    · exact Int.mul_pos q q
  have pos : 0 < g * g * (g' * g') * (s * s') := Int.mul_pos (Int.mul_pos (pp g c) (pp g' c')) (Int.mul_pos b b')
  constructor
  · intro q
    exact Int.mul_neg_of_neg_of_pos (by omega) pos
  · intro q
    by_cases z : t * s' < t' * s
    · exact z
    · have := Int.mul_nonneg (show 0 ≤ t * s' - t' * s by omega) (Int.le_of_lt pos)
      omega
end RX
/-! Fractions as texts: mathematics over lists of codes. -/
namespace TX
open PySem PySem.NumText RX
open TL (numL spl par)
abbrev val : List Nat → Nat := NumText.digitsVal
def isD (c : Nat) : Bool := decide (48 ≤ c) && decide (c ≤ 57)
def allD (w : List Nat) : Bool := w.all isD
theorem allD_iff {w : List Nat} : allD w = true ↔ AllDigits w := by
  unfold allD AllDigits
  rw [List.all_eq_true]
  constructor
  · intro h c hc
    have := h c hc
    unfold isD at this
    rw [Bool.and_eq_true, decide_eq_true_eq, decide_eq_true_eq] at this
    exact this
  · intro h c hc
    have := h c hc
    unfold isD
    rw [Bool.and_eq_true, decide_eq_true_eq, decide_eq_true_eq]
    exact this
theorem snoc_cases (w : List Nat) (h : w ≠ []) : ∃ v c, w = v ++ [c] := ⟨w.dropLast, w.getLast h, (List.dropLast_concat_getLast h).symm⟩
theorem num_head : ∀ (n : Nat), 0 < n → (numL n).head? ≠ some 48 := by
  intro n
  induction n using Nat.strongRecOn with
  | _ n ih =>
    intro hn
    by_cases h : n < 10
    · rw [TL.numL_lt h]
      intro z
      have : 48 + n = 48 := Option.some.inj z
      omega
    · rw [TL.numL_step (by omega)]
      have q := ih (n / 10) (by omega) (by omega)
      cases e : numL (n / 10) with
      | nil => exact absurd e (TL.numL_ne _)
      | cons c r =>
        rw [e] at q
        exact q
theorem num_zero : numL 0 = [48] := TL.numL_lt (by decide)
/-- a text of digits is that of its number exactly if it is 0 or begins with another digit -/
theorem canon : ∀ (w : List Nat), AllDigits w → w ≠ [] → (w = [48] ∨ w.head? ≠ some 48) → numL (val w) = w := by
  intro w
  generalize hn : w.length = n
  induction n using Nat.strongRecOn generalizing w with
  | _ n ih =>
    intro hd hne hc
    obtain ⟨v, c, rfl⟩ := snoc_cases w hne
    have dc := hd c (by simp)
    have dv : AllDigits v := fun x hx => hd x (by simp [hx])
    show numL (NumText.digitsVal (v ++ [c])) = v ++ [c]
    rw [digitsVal_snoc]
    cases v with
    | nil =>
      show numL (0 * 10 + (c - 48)) = [c]
      rw [show 0 * 10 + (c - 48) = c - 48 by omega, TL.numL_lt (by omega), show 48 + (c - 48) = c by omega]
    | cons a r =>
      have hh : (a :: r).head? ≠ some 48 := by
        rcases hc with e | e
        · exact absurd (congrArg List.length e) (by simp)
        · exact e
      have q := ih (a :: r).length (by simp at hn; simp; omega) (a :: r) rfl dv (by simp) (.inr hh)
      have pos : 0 < NumText.digitsVal (a :: r) := by
        rcases Nat.eq_zero_or_pos (NumText.digitsVal (a :: r)) with z | z
        · have q' : numL (NumText.digitsVal (a :: r)) = a :: r := q
          rw [z, num_zero] at q'
          rw [← q'] at hh
          exact absurd rfl hh
        · exact z
      have q' : numL (NumText.digitsVal (a :: r)) = a :: r := q
      generalize NumText.digitsVal (a :: r) = m at *
      rw [TL.numL_step (by omega), show (m * 10 + (c - 48)) / 10 = m by omega, show 48 + (m * 10 + (c - 48)) % 10 = c by omega, q']
theorem canon_num (n : Nat) : numL n = [48] ∨ (numL n).head? ≠ some 48 := by
  rcases Nat.eq_zero_or_pos n with z | z
  · rw [z]; exact .inl num_zero
  · exact .inr (num_head n z)
/-! ### whole numbers -/
def intL (i : Int) : List Nat := if i < 0 then 45 :: numL i.natAbs else numL i.natAbs
def stripm : List Nat → List Nat
  | [] => []
  | c :: r => if c = 45 then r else c :: r
def sval (w : List Nat) : Int := if w.head? = some 45 then -((val w.tail : Nat) : Int) else ((val w : Nat) : Int)
theorem sval_int (i : Int) : sval (intL i) = i := by
  unfold intL sval
  by_cases h : i < 0
  · rw [if_pos h]
    show -((val (numL i.natAbs) : Nat) : Int) = i
    rw [show val (numL i.natAbs) = i.natAbs from TL.numL_val _]
    omega
  · rw [if_neg h, if_neg]
    · rw [show val (numL i.natAbs) = i.natAbs from TL.numL_val _]
      omega
    · intro z
      have m : 45 ∈ numL i.natAbs := List.mem_of_mem_head? z
      have := TL.numL_digits i.natAbs 45 m
      omega
theorem int_free {i : Int} : 47 ∉ intL i := by
  unfold intL
  split
  · intro h
    rcases List.mem_cons.mp h with h | h
    · omega
    · exact TL.numL_free (.inl (by decide)) h
  · exact TL.numL_free (.inl (by decide))
def whole (w : List Nat) : Bool := !(decide (w = []) || decide (60 < w.length) || !allD w) && (decide (w = [48]) || !decide (w.head? = some 48))
def digs (w : List Nat) : Bool := decide (1 ≤ w.length) && decide (w.length ≤ 60) && allD w
theorem whole_iff {w : List Nat} : whole w = true ↔ digs w = true ∧ (w = [48] ∨ w.head? ≠ some 48) := by
  unfold whole digs
  simp only [Bool.and_eq_true, Bool.or_eq_true, Bool.not_eq_true', Bool.or_eq_false_iff, decide_eq_true_eq, decide_eq_false_iff_not, Bool.not_eq_false']
  constructor
  · rintro ⟨⟨⟨h1, h2⟩, h3⟩, h4⟩
    refine ⟨⟨⟨?_, by omega⟩, h3⟩, h4⟩
    rcases w with _ | ⟨a, r⟩
    · exact absurd rfl h1
    · simp
  · rintro ⟨⟨⟨h1, h2⟩, h3⟩, h4⟩
    refine ⟨⟨⟨?_, by omega⟩, h3⟩, h4⟩
    rintro rfl
    simp at h1
theorem digs_ne {w : List Nat} (h : digs w = true) : w ≠ [] := by
  rintro rfl
  simp [digs] at h
theorem digs_all {w : List Nat} (h : digs w = true) : AllDigits w := by
  unfold digs at h
  rw [Bool.and_eq_true] at h
  exact allD_iff.mp h.2
theorem digs_free {w : List Nat} (h : digs w = true) : 47 ∉ w := fun m => by
  have := digs_all h 47 m
  omega
/-- a text whose digits are told is the text of its number exactly if -/
theorem int_back {p : List Nat} (h : digs (stripm p) = true) : intL (sval p) = p ↔ (whole (stripm p) = true ∧ p ≠ [45, 48]) := by
  cases p with
  | nil => simp [stripm, digs] at h
  | cons c r =>
    by_cases hc : c = 45
    · subst hc
      have e1 : stripm (45 :: r) = r := rfl
      rw [e1] at h ⊢
      have e2 : sval (45 :: r) = -((val r : Nat) : Int) := rfl
      rw [e2, whole_iff]
      have hr := digs_ne h
      have da := digs_all h
      constructor
      · intro z
        unfold intL at z
        split at z
        · rename_i neg
          injection z with _ z
          have k : ((-((val r : Nat) : Int)).natAbs) = val r := by omega
          rw [k] at z
          refine ⟨⟨h, ?_⟩, ?_⟩
          · rw [← z]; exact canon_num _
          · intro q
            injection q with _ q
            rw [q] at neg
            exact absurd neg (by decide)
        · rename_i neg
          have k : val r = 0 := by omega
          rw [k] at z
          have z' : numL 0 = 45 :: r := z
          rw [num_zero] at z'
          injection z' with z' _
          exact absurd z' (by decide)
      · rintro ⟨⟨_, hcan⟩, hno⟩
        have cn := canon r da hr hcan
        have pos : 0 < val r := by
          rcases Nat.eq_zero_or_pos (val r) with z | z
          · rw [z, num_zero] at cn
            exact absurd (by rw [← cn]) hno
          · exact z
        unfold intL
        rw [if_pos (by omega), show (-((val r : Nat) : Int)).natAbs = val r by omega, cn]
    · have e1 : stripm (c :: r) = c :: r := if_neg hc
      rw [e1] at h ⊢
      have e2 : sval (c :: r) = ((val (c :: r) : Nat) : Int) := if_neg (fun z => hc (Option.some.inj z))
      rw [e2, whole_iff]
      have da := digs_all h
      have e3 : intL ((val (c :: r) : Nat) : Int) = numL (val (c :: r)) := by
        unfold intL
        rw [if_neg (by omega), Int.natAbs_natCast]
      rw [e3]
      constructor
      · intro z
        refine ⟨⟨h, ?_⟩, ?_⟩
        · have k := canon_num (val (c :: r))
          rw [z] at k
          exact k
        · intro q
          injection q with q _
          exact hc q
      · rintro ⟨⟨_, hcan⟩, _⟩
        exact canon _ da (by simp) hcan
/-! ### the two readings -/
def ratL (t b : Int) : List Nat := if b = 1 then intL t else intL t ++ 47 :: intL b
def cut (x : List Nat) : List Nat × Bool × List Nat := match par [47] [] x with
  | some (p, q) => (p, true, q)
  | none => (x, false, [])
def progR (x : List Nat) : Option (Int × Int) :=
  let h := (cut x).1
  let b := if (cut x).2.1 then (cut x).2.2 else [49]
  if !digs (stripm h) || !digs b then none
  else if (val b : Int) = 0 then none
  else if ratL (tp (sval h) (val b)) (bt (sval h) (val b)) = x then some (tp (sval h) (val b), bt (sval h) (val b)) else none
def lawR (x : List Nat) : Option (Int × Int) :=
  let ws := spl [47] 0 [] x
  let w0 := ws.headD []
  if decide (2 < ws.length) || !whole (stripm w0) || decide (w0 = [45, 48]) then none
  else if ws.length = 1 then some (sval w0, 1)
  else
    let w1 := ws.getD 1 []
    if !whole w1 || (decide (w1 = [48]) || decide (w1 = [49])) then none
    else if Nat.gcd (sval w0).natAbs (val w1) ≠ 1 then none
    else some (sval w0, (val w1 : Int))
theorem tp_one (u : Int) : tp u 1 = u := by
  have e := u_eq u 1
  have g : gc u 1 = 1 := by
    unfold gc
    rw [if_neg (by decide), show (1 : Int).natAbs = 1 from rfl, Nat.gcd_one_right]
    rfl
  rw [g, Int.one_mul] at e
  exact e
theorem bt_one (u : Int) : bt u 1 = 1 := by
  have e := d_eq u 1
  have g : gc u 1 = 1 := by
    unfold gc
    rw [if_neg (by decide), show (1 : Int).natAbs = 1 from rfl, Nat.gcd_one_right]
    rfl
  rw [g, Int.one_mul] at e
  exact e
theorem low_same {u d : Int} (h : 0 < d) (g : Nat.gcd u.natAbs d.natAbs = 1) : tp u d = u ∧ bt u d = d := by
  have k : gc u d = 1 := by
    unfold gc
    rw [if_neg (by omega), g]
    rfl
  have e1 := u_eq u d
  have e2 := d_eq u d
  rw [k, Int.one_mul] at e1 e2
  exact ⟨e1, e2⟩
theorem split_first {x : List Nat} (h : 47 ∈ x) : ∃ p q, x = p ++ 47 :: q ∧ 47 ∉ p := by
  induction x with
  | nil => simp at h
  | cons c r ih =>
    by_cases hc : c = 47
    · exact ⟨[], r, by rw [hc]; rfl, by simp⟩
    · obtain ⟨p, q, e, n⟩ := ih ((List.mem_cons.mp h).resolve_left fun z => hc z.symm)
      exact ⟨c :: p, q, by rw [e]; rfl, fun z => by
        rcases List.mem_cons.mp z with z | z
        · exact hc z.symm
        · exact n z⟩
theorem app_uniq : ∀ {p p' q q' : List Nat}, 47 ∉ p → 47 ∉ p' → p ++ 47 :: q = p' ++ 47 :: q' → p = p' ∧ q = q'
  | [], [], _, _, _, _, e => by
    injection e with _ e
    exact ⟨rfl, e⟩
  | [], c :: r, _, _, _, h, e => by
    injection e with e _
    exact absurd (by rw [e]; exact List.mem_cons_self) h
  | c :: r, [], _, _, h, _, e => by
    injection e with e _
    exact absurd (by rw [← e]; exact List.mem_cons_self) h
  | c :: r, c' :: r', _, _, h, h', e => by
    injection e with e1 e2
    obtain ⟨a, b⟩ := app_uniq (fun z => h (List.mem_cons_of_mem _ z)) (fun z => h' (List.mem_cons_of_mem _ z)) e2
    exact ⟨by rw [e1, a], b⟩
theorem spl_len {x : List Nat} (h : 47 ∈ x) : 2 ≤ (spl [47] 0 [] x).length := by
  obtain ⟨p, q, rfl, n⟩ := split_first h
  have e : spl [47] 0 [] (p ++ ([47] ++ q)) = ([] ++ p) :: spl [47] 0 [] q := TL.spl_part1 n
  rw [show p ++ 47 :: q = p ++ ([47] ++ q) from rfl, e]
  have : 1 ≤ (spl [47] 0 [] q).length := by
    by_cases m : 47 ∈ q
    · obtain ⟨p', q', rfl, n'⟩ := split_first m
      have e : spl [47] 0 [] (p' ++ ([47] ++ q')) = ([] ++ p') :: spl [47] 0 [] q' := TL.spl_part1 n'
      rw [show p' ++ 47 :: q' = p' ++ ([47] ++ q') from rfl, e]
      simp
    · rw [TL.spl_last1 m]
      simp
  simp only [List.length_cons]
  omega
theorem whole_digs {w : List Nat} (h : whole w = true) : digs w = true := (whole_iff.mp h).1
theorem read_same (x : List Nat) : progR x = lawR x := by
  by_cases h : 47 ∈ x
  · obtain ⟨p, q, rfl, n⟩ := split_first h
    have ec : cut (p ++ 47 :: q) = (p, true, q) := by
      unfold cut
      rw [show p ++ 47 :: q = p ++ ([47] ++ q) from rfl, TL.par_part1 n, List.nil_append]
    have es : spl [47] 0 [] (p ++ 47 :: q) = p :: spl [47] 0 [] q := by
      rw [show p ++ 47 :: q = p ++ ([47] ++ q) from rfl, TL.spl_part1 n, List.nil_append]
    by_cases m : 47 ∈ q
    · have l2 := spl_len m
      have e1 : lawR (p ++ 47 :: q) = none := by
        unfold lawR
        rw [es]
        refine if_pos ?_
        rw [decide_eq_true (by simp only [List.length_cons]; omega)]
        rfl
      rw [e1]
      unfold progR
      rw [ec]
      refine if_pos ?_
      show (!digs (stripm p) || !digs q) = true
      cases e : digs q with
      | false => rw [Bool.not_false, Bool.or_true]
      | true => exact absurd m (digs_free e)
    · have eq1 : spl [47] 0 [] q = [q] := by
        rw [TL.spl_last1 m, List.nil_append]
      have el : lawR (p ++ 47 :: q) = if !whole (stripm p) || decide (p = [45, 48]) then none else if !whole q || (decide (q = [48]) || decide (q = [49])) then none else if Nat.gcd (sval p).natAbs (val q) ≠ 1 then none else some (sval p, (val q : Int)) := by
        unfold lawR
        rw [es, eq1]
        rfl
      have ep : progR (p ++ 47 :: q) = if !digs (stripm p) || !digs q then none else if (val q : Int) = 0 then none else if ratL (tp (sval p) (val q)) (bt (sval p) (val q)) = p ++ 47 :: q then some (tp (sval p) (val q), bt (sval p) (val q)) else none := by
        unfold progR
        rw [ec]
        rfl
      rw [el, ep]
      cases e1 : digs (stripm p) with
      | false =>
        have : whole (stripm p) = false := by
          cases e : whole (stripm p) with
          | false => rfl
          | true => rw [whole_digs e] at e1; exact e1
        rw [this]
        rfl
      | true =>
        cases e2 : digs q with
        | false =>
          have : whole q = false := by
            cases e : whole q with
            | false => rfl
            | true => rw [whole_digs e] at e2; exact e2
          rw [this]
          show none = if (!whole (stripm p) || decide (p = [45, 48])) = true then none else none
          split <;> rfl
        | true =>
          have b1 := int_back e1
          have qa := digs_all e2
          have qn := digs_ne e2
          by_cases good : (whole (stripm p) = true ∧ p ≠ [45, 48]) ∧ (whole q = true ∧ q ≠ [48] ∧ q ≠ [49]) ∧ Nat.gcd (sval p).natAbs (val q) = 1
          · obtain ⟨⟨g1, g2⟩, ⟨g3, g4, g5⟩, g6⟩ := good
            have cq := canon q qa qn (whole_iff.mp g3).2
            have v0 : val q ≠ 0 := fun z => by
              rw [z, num_zero] at cq
              exact g4 cq.symm
            have v1 : val q ≠ 1 := fun z => by
              rw [z, TL.numL_lt (by decide)] at cq
              exact g5 cq.symm
            have lw := low_same (u := sval p) (d := (val q : Int)) (by omega) (by rw [Int.natAbs_natCast]; exact g6)
            rw [g1, g3, lw.1, lw.2]
            rw [decide_eq_false g2, decide_eq_false g4, decide_eq_false g5]
            have er : ratL (sval p) (val q : Int) = p ++ 47 :: q := by
              unfold ratL
              rw [if_neg (by omega), b1.mpr ⟨g1, g2⟩]
              have : intL ((val q : Nat) : Int) = q := by
                unfold intL
                rw [if_neg (by omega), Int.natAbs_natCast, cq]
              rw [this]
            rw [er, if_pos rfl, if_neg (by omega : ¬ ((val q : Nat) : Int) = 0)]
            show (if (!true || !true) = true then none else some (sval p, (val q : Int))) = if (!true || false) = true then none else if (!true || (false || false)) = true then none else if Nat.gcd (sval p).natAbs (val q) ≠ 1 then none else some (sval p, (val q : Int))
            rw [if_neg (by decide), if_neg (by decide), if_neg (by decide), if_neg (fun z => z g6)]
          · have lz : (if !whole (stripm p) || decide (p = [45, 48]) then none else if !whole q || (decide (q = [48]) || decide (q = [49])) then none else if Nat.gcd (sval p).natAbs (val q) ≠ 1 then none else some (sval p, (val q : Int))) = (none : Option (Int × Int)) := by
              split
              · rfl
              · rename_i c1
                split
                · rfl
                · rename_i c2
                  split
                  · rfl
                  · rename_i c3
                    exfalso
                    simp only [Bool.or_eq_true, Bool.not_eq_true', decide_eq_true_eq, not_or] at c1 c2
                    exact good ⟨⟨by simpa using c1.1, c1.2⟩, ⟨by simpa using c2.1, c2.2.1, c2.2.2⟩, Decidable.not_not.mp c3⟩
            rw [lz]
            refine if_neg (by decide) |>.trans ?_
            split
            · rfl
            · rename_i v0
              refine if_neg fun er => good ?_
              have bp := bt_pos (u := sval p) v0
              unfold ratL at er
              split at er
              · exact absurd (by rw [er]; simp) (int_free (i := tp (sval p) (val q)))
              · rename_i b1'
                obtain ⟨e3, e4⟩ := app_uniq int_free n er
                have e5 : sval p = tp (sval p) (val q) := by
                  have := sval_int (tp (sval p) (val q))
                  rw [e3] at this
                  exact this
                have e6 : ((val q : Nat) : Int) = bt (sval p) (val q) := by
                  have := sval_int (bt (sval p) (val q))
                  rw [e4] at this
                  unfold sval at this
                  rw [if_neg (fun z => by have := qa 45 (List.mem_of_mem_head? z); omega)] at this
                  exact this
                have cop := low_cop (u := sval p) v0
                rw [← e5, ← e6, Int.natAbs_natCast] at cop
                have back : intL (sval p) = p := by rw [e5]; exact e3
                refine ⟨b1.mp back, ?_, cop⟩
                have enq : intL (bt (sval p) (val q)) = numL (val q) := by
                  rw [← e6]
                  unfold intL
                  rw [if_neg (by omega), Int.natAbs_natCast]
                rw [enq] at e4
                refine ⟨whole_iff.mpr ⟨e2, ?_⟩, ?_, ?_⟩
                · have := canon_num (val q)
                  rw [e4] at this
                  exact this
                · rintro rfl
                  exact v0 rfl
                · rintro rfl
                  exact b1' (by rw [← e6]; rfl)
  · have ec : cut x = (x, false, []) := by
      unfold cut
      rw [TL.par_none1 h]
    have es : spl [47] 0 [] x = [x] := by
      rw [TL.spl_last1 h, List.nil_append]
    have el : lawR x = if !whole (stripm x) || decide (x = [45, 48]) then none else some (sval x, 1) := by
      unfold lawR
      rw [es]
      rfl
    have ep : progR x = if !digs (stripm x) || !true then none else if ratL (tp (sval x) 1) (bt (sval x) 1) = x then some (tp (sval x) 1, bt (sval x) 1) else none := by
      unfold progR
      rw [ec]
      rfl
    rw [el, ep, tp_one, bt_one]
    cases e1 : digs (stripm x) with
    | false =>
      have : whole (stripm x) = false := by
        cases e : whole (stripm x) with
        | false => rfl
        | true => rw [whole_digs e] at e1; exact e1
      rw [this]
      rfl
    | true =>
      have b1 := int_back e1
      refine (if_neg (by decide)).trans ?_
      show (if intL (sval x) = x then some (sval x, (1 : Int)) else none) = _
      by_cases g : whole (stripm x) = true ∧ x ≠ [45, 48]
      · rw [if_pos (b1.mpr g), g.1, decide_eq_false g.2]
        rfl
      · rw [if_neg fun z => g (b1.mp z)]
        refine (if_pos ?_).symm
        rw [Bool.or_eq_true, Bool.not_eq_true', decide_eq_true_eq]
        by_cases z : x = [45, 48]
        · exact .inr z
        · refine .inl ?_
          cases e : whole (stripm x) with
          | false => rfl
          | true => exact absurd ⟨e, z⟩ g
end TX
set_option maxRecDepth 100000
set_option maxHeartbeats 4000000
set_option exponentiation.threshold 10000
/-! str(x) and repr(x) by a class's own defs. -/
namespace RX
open PySem PySem.Spec PyProof.Rows L2
section
variable {X : Cx} {CX : CXT} {k : Nat} {f C : Addr} {fd : FuncData} {ps : List Str} {sp : Sp} {E : XK}
def rTxtO (C : Addr) (sp : Sp) (E : XK) : List V → Hp → VK → Prop := fun xs H Q => ∃ a dx fs, xs = [.ref a] ∧ H a = some (.ins C dx fs) ∧ sp [.ref a] H (fun v H' => ∃ z, v = .str z ∧ Q (.str z) H') E
theorem txt_back {pins : List (Addr × Obj)} {σ : L2.St} {Q : VK} (r : Value) (s' : Shared) (z : EP X pins σ (fun v H' => ∃ z, v = .str z ∧ Q (.str z) H') r s') : PySem.W.StrBack (EP X pins σ Q) r s' := by
  obtain ⟨w, H', I', rv, y, rfl, q'⟩ := z
  obtain ⟨t, rfl⟩ := rv
  exact ⟨.str y, H', I', ⟨t, rfl⟩, q'⟩
theorem call_strO (F : FnOk X.prog X.w X.K X.mg X.base CX k f fd ps sp) (O : Own X.K C f "__str__") (hr : Room (k + 2) X.A) (hb : Binds X.K fd ps []) (hx : Passes CX X E) : CallR X (.type "str") (rTxtO C sp E) := by
  intro pins s σ H xs us Q I r h
  obtain ⟨a, dx, fs, rfl, ea, q⟩ := h
  obtain ⟨u, rfl, ru⟩ := vals1 r
  cases ru
  obtain ⟨_, _, J⟩ := inst_at I ea
  have r2 := hr.in1.in1
  refine PySem.W.kso_call r2.units0 I.kIn J O.at_ O.fn ?_
  exact wpAny_mono (run_sub (vs := [.ref a]) F r2 rfl hb hx I (.cons rfl .nil) q) (fun r s' z => txt_back r s' z) fun _ _ z => z
theorem call_reprO (F : FnOk X.prog X.w X.K X.mg X.base CX k f fd ps sp) (O : Own X.K C f "__repr__") (hr : Room (k + 1) X.A) (hb : Binds X.K fd ps []) (hx : Passes CX X E) : CallR X (.builtin "repr") (rTxtO C sp E) := by
  intro pins s σ H xs us Q I r h
  obtain ⟨a, dx, fs, rfl, ea, q⟩ := h
  obtain ⟨u, rfl, ru⟩ := vals1 r
  cases ru
  obtain ⟨_, _, J⟩ := inst_at I ea
  obtain ⟨m, hF⟩ := I.fr
  have r2 := hr.in1
  refine PySem.W.repr_K r2.units0 hF I.ok.mod.kin J O.at_ O.fn ?_
  exact wpAny_mono (run_sub (vs := [.ref a]) F r2 rfl hb hx I (.cons rfl .nil) q) (fun r s' z => txt_back r s' z) fun _ _ z => z
end
end RX
set_option maxRecDepth 100000
set_option maxHeartbeats 4000000
set_option exponentiation.threshold 10000
namespace B3
open PySem PySem.Spec PyProof.Rows L2 RX LP SX TX
def top (i : Nat) : Stmt := PySem.Challenge.pw_betweenfaces_k03_fractions_as_texts.main.body.getD i (.Pass ⟨0, 0, 0, 0⟩)
abbrev sDig : Stmt := top 10
abbrev sInit : Stmt := inClass (top 9) 0
abbrev sRead : Stmt := inClass (top 9) 2
abbrev sEq : Stmt := inClass (top 9) 7
abbrev sStr : Stmt := inClass (top 9) 9
abbrev sRepr : Stmt := inClass (top 9) 10
section
variable {σ : L2.St} {H : Hp} {te ta tb : TE} {x v cv : V} {t u : Value} {b c : Bool} {K : PySem.W.Frag}
theorem val_isi (h : Val te σ H x) (ty : TyX K H x t) (k : PySem.W.kitOne K t u = some b) (c : ClsV cv u) : Val (tCB (rIsi K) (tCons te (tCons (tC cv) tNil))) σ H (.bl b) := fun Q q => h _ ⟨x, cv, t, u, b, rfl, c, ty, k, q⟩
theorem val_and (h1 : Val ta σ H (.bl b)) (h2 : b = true → Val tb σ H (.bl c)) : Val (tAndV ta tb) σ H (.bl (b && c)) := fun Q q => h1 _ ⟨b, rfl, by
  cases b with
  | true => exact h2 rfl _ q
  | false => exact q⟩
theorem val_not (h1 : Val ta σ H (.bl b)) : Val (tNotV ta) σ H (.bl (!b)) := fun Q q => h1 _ ⟨b, rfl, q⟩
end
def digitsL : List Nat := [48, 49, 50, 51, 52, 53, 54, 55, 56, 57]
theorem mem_digits (c : Nat) : decide (c ∈ digitsL) = isD c := by
  unfold digitsL isD
  rw [← Bool.decide_and]
  refine decide_eq_decide.mpr ?_
  simp only [List.mem_cons, List.not_mem_nil, or_false]
  omega
/-- names of built-ins, and the constants of the module -/
structure Bl (mg : Str → Option Value) : Prop where
  abs : mg "abs" = none
  int : mg "int" = none
  str : mg "str" = none
  isi : mg "isinstance" = none
  bool : mg "bool" = none
  repr : mg "repr" = none
  list : mg "list" = none
  len : mg "len" = none
  all : mg "all" = none
  range : mg "range" = none
  ve : mg "ValueError" = none
  md : ∃ t, mg "MOST_DIGITS" = some (.int 60 t)
  dg : ∃ t, mg "DIGITS" = some (.str (S digitsL) t)
def spDig : Sp := fun vs H Q _ => ∃ wd : List Nat, vs = [.str (S wd)] ∧ wd.length ≤ 100000 ∧ ∀ H', Grow H H' → Q (.bl (digs wd)) H'
theorem all_upto {p : Nat → Bool} {l : List Nat} (h : l.all p = false) : True := trivial
section
variable {P : Program} {w : World} {K : PySem.W.Frag} {mg : Str → Option Value} {base : Heap} {C CI CQ f : Addr} {fd : FuncData}
theorem scDig : FnScope ["word", "sign"] ["word"] (defScope sDig) := ⟨rfl, rfl, rfl, by decide +kernel, rfl, by decide +kernel, by decide +kernel⟩
theorem ok_dig (F : Fun K "_are_digits" "_are_digits" sDig f fd) (G : Bl mg) : FnOk P w K mg base CX0 1 f fd ["word"] spDig := by
  refine F.ok scDig (fun vs H Q E h => ?_) (fun cdv A outer s H vs Q E hr h => ?_)
  · obtain ⟨x, rfl, _⟩ := h
    rfl
  · obtain ⟨wd, rfl, hl, q⟩ := h
    obtain ⟨t60, g60⟩ := G.md
    obtain ⟨td, gd⟩ := G.dg
    have nd := scDig.nd
    refine ⟨_, pss_one (ps_ret (pe_and (pe_chain op_le op_le pe_int (pe_callB call_len_str (by rfl) G.len PySem.boot_len (pa_cons (pv 0) pa_nil)) (pe_glob (v := .int 60) (by rfl) g60 ⟨_, rfl⟩))
      (pe_one (pe_callB (cr_all rfl) (by rfl) G.all (by decide +kernel) (pa_cons (pe_lc (own := [("sign", 1)]) (g := gName 1) (tt := tYes) (by rfl) nd (pi_str (pv 0)) (blkOk_by (own := [("sign", 1)]) (N := ["word", "sign"]) (sc := defScope sDig) (by decide +kernel)) (fun _ _ _ _ _ => pg_name (i := 1) nd rfl (Or.inl rfl)) (fun _ _ _ _ _ => pts_nil)
        (fun _ _ _ _ _ => pe_cmpR op_in_sign (pv 1) (pe_glob (v := .str (S digitsL)) (by rfl) gd ⟨_, rfl⟩) rfl)) pa_nil))))), ?_⟩
    have hz : (S wd).length ≤ sizeLine := by rw [S_len]; exact Nat.le_trans hl (by decide)
    refine ⟨_, rfl, _, rfl, hz, _, _, rfl, rfl, _, rfl, ?_⟩
    rw [S_len]
    by_cases h1 : 1 ≤ wd.length
    · rw [decide_eq_true (show (1 : Int) ≤ (wd.length : Int) by omega)]
      refine iteT ⟨_, _, rfl, rfl, _, rfl, ?_⟩
      by_cases h2 : wd.length ≤ 60
      · rw [decide_eq_true (show (wd.length : Int) ≤ 60 by omega)]
        refine iteT ⟨_, rfl, _, rfl, fun D hD => ?_⟩
        refine lc_it (walk_str (z := S wd)) (fun k H' => Grow H H' ∧ H' D = some (.lst (((wd.take k).map isD).map V.bl))) ⟨grow_new hD, upd_same⟩ (fun _ _ _ _ => trivial) (fun i x H1 H2 hi pv y => ?_) (fun H1 pv => ?_)
        · obtain ⟨rfl, c, hc, rfl⟩ := y
          obtain ⟨g, hd⟩ := pv
          have hc' : wd[i]? = some c := by
            have : (S wd).cps[i]? = wd[i]? := by simp [S]
            rw [← this]; exact hc
          refine ⟨rfl, ?_⟩
          refine iteT (B := Grow H H2 ∧ H2 D = some (.lst (((wd.take (i + 1)).map isD).map V.bl))) ⟨_, rfl, _, _, rfl, rfl, _, hd, ?_, ?_, ?_⟩
          · rw [List.length_map, List.length_map, List.length_take]
            have : 60 < sizeLine := by decide
            omega
          · intro b o e
            rw [upd_ne (ne_of_none e hD)]
            exact g b o e
          · rw [upd_same, List.take_add_one, hc']
            show some (HO.lst _) = some (HO.lst _)
            rw [show (S digitsL).cps.toList = digitsL from rfl, mem_digits]
            simp
        · obtain ⟨g, hd⟩ := pv
          have ez : (S wd).cps.size = wd.length := by simp [S]
          rw [ez, List.take_length] at hd
          refine ⟨D, _, rfl, SqL.of hd, ?_⟩
          have e : digs wd = (wd.map isD).all id := by
            unfold digs allD
            rw [decide_eq_true h1, decide_eq_true h2, List.all_map]
            rfl
          rw [← e]
          exact q _ g
      · rw [decide_eq_false (show ¬ (wd.length : Int) ≤ 60 by omega)]
        refine iteF ?_
        have e : digs wd = false := by
          unfold digs
          rw [decide_eq_false h2, Bool.and_false, Bool.false_and]
        rw [← e]
        exact q _ grow_rfl
    · rw [decide_eq_false (show ¬ (1 : Int) ≤ (wd.length : Int) by omega)]
      refine iteF ⟨_, rfl, iteF ?_⟩
      have e : digs wd = false := by
        unfold digs
        rw [decide_eq_false h1, Bool.false_and, Bool.false_and]
      rw [← e]
      exact q _ grow_rfl
end
end B3
set_option maxRecDepth 100000
set_option maxHeartbeats 4000000
set_option exponentiation.threshold 10000
namespace LP
open PySem PySem.Spec PyProof.Rows L2
def EvB (c : TT) (σ : L2.St) (H : Hp) (b : Bool) : Prop := ∀ H1, Grow H H1 → ∀ Q : Bool → Hp → Prop, (∀ H2, Grow H1 H2 → Q b H2) → c σ H1 Q
section
variable {K : PySem.W.Frag} {σ : L2.St} {H H' : Hp} {te ta tb : TE} {tl : TA} {P R : PV} {v : V} {i j : Nat} {c c' : TT} {D : Ends} {t1 t2 u : TS} {b : Bool}
theorem sq_no (h : EvB c σ H false) (q : ∀ H', Grow H H' → u D σ H') : tSeq (tIfS c t1 tNext) u D σ H := h H grow_rfl _ fun H2 g => iteF (q H2 g)
theorem sq_yes (h : EvB c σ H true) (q : ∀ H', Grow H H' → t1 { D with nx := u D } σ H') : tSeq (tIfS c t1 t2) u D σ H := h H grow_rfl _ fun H2 g => iteT (q H2 g)
theorem evb_or (h : EvB c σ H false) (h' : EvB c' σ H b) : EvB (tOr c c') σ H b := fun H1 g Q q => h H1 g _ fun H2 g2 => iteF (h' H2 (g.tr g2) Q fun H3 g3 => q H3 (g2.tr g3))
theorem evb_or1 (h : EvB c σ H true) : EvB (tOr c c') σ H true := fun H1 g Q q => h H1 g _ fun H2 g2 => iteT (q H2 g2)
theorem evb_not (h : EvB c σ H b) : EvB (tNot c) σ H (!b) := fun H1 g Q q => h H1 g _ fun H2 g2 => q H2 g2
theorem evb_val (h : EvP te σ H (IsP (.bl b))) : EvB (tB te) σ H b := fun H1 g Q q => h H1 g _ fun v H2 g2 e => ⟨b, e, q H2 g2⟩
theorem EvB.to {b' : Bool} (h : EvB c σ H b) (e : b = b') : EvB c σ H b' := by rw [← e]; exact h
end
end LP
namespace B3
open PySem PySem.Spec PyProof.Rows L2 RX LP SX TX
/-- where a def stands -/
structure At (K : PySem.W.Frag) (mg : Str → Option Value) (x : Str) (f : Addr) (fd : FuncData) (ps : List Str) : Prop where
  mg : mg x = some (.ref f)
  kp : PySem.W.keepIn K (.ref f) = true
  b : Binds K fd ps []
theorem int_txt (i : Int) : Str.ofString (toString i) = S (intL i) := by
  unfold intL
  by_cases h : i < 0
  · rw [if_pos h]
    obtain ⟨m, rfl⟩ : ∃ m : Nat, i = Int.negSucc m := ⟨i.natAbs - 1, by omega⟩
    show Str.ofString ("-" ++ toString (m + 1)) = _
    refine TL.ext_tl ?_
    rw [TL.tl_ofString]
    have e := TL.tl_num (m + 1)
    rw [TL.tl_ofString] at e
    rw [show (("-" ++ toString (m + 1) : String)).toList = '-' :: (toString (m + 1)).toList by rw [String.toList_append]; rfl]
    show (45 : Nat) :: (toString (m + 1)).toList.map Char.toNat = 45 :: TL.numL (m + 1)
    rw [← e]
    rfl
  · rw [if_neg h]
    obtain ⟨n, rfl⟩ : ∃ n : Nat, i = (n : Int) := ⟨i.natAbs, by omega⟩
    exact SX.num_S n
theorem log_of {i : Int} (h : i.natAbs < 2 ^ 1900) : i.natAbs.log2 < 1920 := Nat.lt_trans (PySem.Flt.log2_lt_of (by decide) h) (by decide)
theorem intL_len {i : Int} (h : i.natAbs < 2 ^ 1900) : (intL i).length ≤ 1921 := by
  have := int_text_len_1921 (log_of h)
  rw [int_txt, S_len] at this
  exact this
section
variable {σ : L2.St} {H : Hp} {te : TE} {ts : List TE} {acc y : Str} {Q : Str → Hp → Prop} {i : Int}
theorem v_fmt (h : Val te σ H (.int i)) (s : i.natAbs < 2 ^ 1900) : Val (tFmt te) σ H (.str (Str.ofString (toString i))) := fun Q q => h _ (Or.inr ⟨i, rfl, log_of s, q⟩)
theorem js_cons {t : TE} (h : Val t σ H (.str y)) (l : (acc ++ y).length ≤ sizeLine) (q : tJs ts (acc ++ y) σ H Q) : tJs (t :: ts) acc σ H Q := h _ ⟨y, rfl, l, q⟩
end
def reprL (t b : Int) : List Nat := [82, 97, 116, 105, 111, 40] ++ intL t ++ [44, 32] ++ intL b ++ [41]
/-- Ratio(x, y), both integers -/
def spInit (C CI : Addr) : Sp := fun vs H Q E => ∃ p dx u d, vs = [.ref p, .int u, .int d] ∧ H p = some (.ins C dx []) ∧
  (d ≠ 0 → u.natAbs < 2 ^ 4000 ∧ d.natAbs < 2 ^ 4000 ∧ Q .non (upd H p (.ins C dx (flds (tp u d) (bt u d))))) ∧ (d = 0 → E (.ref CI) none H)
def spTxt (C : Addr) (g : Int → Int → List Nat) : Sp := fun vs H Q _ => ∃ a dx t b, vs = [.ref a] ∧ H a = some (.ins C dx (flds t b)) ∧ t.natAbs < 2 ^ 1900 ∧ b.natAbs < 2 ^ 1900 ∧ Q (.str (S (g t b))) H
def spEq (K : PySem.W.Frag) (C : Addr) : Sp := fun vs H Q _ => ∃ a dx t1 b1 y r, vs = [.ref a, y] ∧ H a = some (.ins C dx (flds t1 b1)) ∧ KR K C H y r ∧ (r = false → Q (.bl false) H) ∧ (r = true → ∃ b dy t2 b2, y = .ref b ∧ H b = some (.ins C dy (flds t2 b2)) ∧ Q (.bl (decide (t1 = t2) && decide (b1 = b2))) H)
section
variable {P : Program} {w : World} {K : PySem.W.Frag} {mg : Str → Option Value} {base : Heap} {C CI CQ f : Addr} {fd : FuncData}
variable (T : RTx K mg C CI CQ)
include T
theorem v_top {σ : L2.St} {H : Hp} {i : Nat} {a dx : Addr} {t b : Int} (h : σ[i]? = some (some (.ref a))) (e : H a = some (.ins C dx (flds t b))) : Val (tFld K (tVar i) "top") σ H (.int t) := val_fld (val_var h) e T.cl T.nT flds_top
theorem v_bot {σ : L2.St} {H : Hp} {i : Nat} {a dx : Addr} {t b : Int} (h : σ[i]? = some (some (.ref a))) (e : H a = some (.ins C dx (flds t b))) : Val (tFld K (tVar i) "bottom") σ H (.int b) := val_fld (val_var h) e T.cl T.nB flds_bot
omit T
theorem scInit : FnScope ["self", "top", "bottom", "shared"] ["self", "top", "bottom"] (defScope sInit) := ⟨rfl, rfl, rfl, by decide +kernel, rfl, by decide +kernel, by decide +kernel⟩
theorem scEq : FnScope ["self", "other"] ["self", "other"] (defScope sEq) := ⟨rfl, rfl, rfl, by decide +kernel, rfl, by decide +kernel, by decide +kernel⟩
theorem scStr : FnScope ["self"] ["self"] (defScope sStr) := ⟨rfl, rfl, rfl, by decide +kernel, rfl, by decide +kernel, by decide +kernel⟩
theorem scRepr : FnScope ["self"] ["self"] (defScope sRepr) := ⟨rfl, rfl, rfl, by decide +kernel, rfl, by decide +kernel, by decide +kernel⟩
include T
theorem ok_init {dvs : List V} (F : FunD K "__init__" "Ratio.__init__" (defArgs sInit) (defBody sInit) (defScope sInit) dvs [] f fd) :
    FnOk P w K mg base (L2.CX P w) 1 f fd ["self", "top", "bottom"] (spInit C CI) := by
  refine F.ok scInit (fun vs H Q E h => ?_) (fun cdv A outer s H vs Q E hr h => ?_)
  · obtain ⟨p, dx, x, y, rfl, _⟩ := h
    rfl
  · obtain ⟨p, dx, u, d, rfl, hp, good, bad⟩ := h
    have nd := scInit.nd
    refine ⟨_, pss_cons (ps_if (PW.pt (pw_or (pt_not (pt_val (pe_callB call_isi (by rfl) T.isi (by decide +kernel) (pa_cons (pv 1) (pa_cons (pe_bltn (v := .ty "int") (by rfl) T.int (by decide +kernel) rfl) pa_nil)))))
        (pw_or (pt_not (pt_val (pe_callB call_isi (by rfl) T.isi (by decide +kernel) (pa_cons (pv 2) (pa_cons (pe_bltn (v := .ty "int") (by rfl) T.int (by decide +kernel) rfl) pa_nil))))) (pw_or1 (pt_cmpR op_eq (pv 2) pe_int (nomark _))))))
        (pss_one (ps_raise rfl (takes_of rfl rfl rfl rfl) (pmk_own0 PySem.F.excBase_ValueError T.xI T.gI T.kI (raises_own T.bI T.tI) (by rfl)))) pss_nil)
      (pss_cons (ps_if (PW.pt (pw_or (pt_val (pe_callB call_isi (by rfl) T.isi (by decide +kernel) (pa_cons (pv 1) (pa_cons (pe_bltn (v := .ty "bool") (by rfl) T.bool (by decide +kernel) rfl) pa_nil))))
        (pw_or1 (pt_val (pe_callB call_isi (by rfl) T.isi (by decide +kernel) (pa_cons (pv 2) (pa_cons (pe_bltn (v := .ty "bool") (by rfl) T.bool (by decide +kernel) rfl) pa_nil)))))))
        (pss_one (ps_raise rfl (takes_of rfl rfl rfl rfl) (pmk_own0 PySem.F.excBase_ValueError T.xI T.gI T.kI (raises_own T.bI T.tI) (by rfl)))) pss_nil)
      (pss_cons (ps_set (i := 3) nd rfl (Or.inl rfl) (pe_callBfun cr_gcd (by rfl) T.gcd (pa_cons (pv 1) (pa_cons (pv 2) pa_nil))))
      (C8.pss_cut (ps_if (pt_cmpR op_lt (pv 2) pe_int (nomark _)) (pss_one (ps_set (i := 3) nd rfl (Or.inl rfl) (pe_un un_neg (pv 3)))) pss_nil)
      (pss_cons (ps_fld (pv 0) (pe_op op_fdivX (pv 1) (pv 3)) rfl)
      (pss_one (ps_fld (pv 0) (pe_op op_fdivX (pv 2) (pv 3)) rfl)))))), ?_⟩
    show tSeq _ _ _ [some (V.ref p), some (V.int u), some (V.int d), none] H
    have kI : ∀ i : Int, ∃ t, TyX K H (.int i) t ∧ PySem.W.kitOne K t (.type "int") = some true ∧ PySem.W.kitOne K t (.type "bool") = some false := fun i => ⟨_, .base (.int i), kit_ty (by decide +kernel), kit_ty (by decide +kernel)⟩
    obtain ⟨tu, tyu, ku, ku'⟩ := kI u
    obtain ⟨td, tyd, kd, kd'⟩ := kI d
    have c1 : Ans _ [some (V.ref p), some (V.int u), some (V.int d), none] H false := (ans_not (ans_val (val_isi (te := tVar 1) (cv := .ty "int") (val_var rfl) tyu ku (.ty _)))).to rfl
    have c2 : Ans _ [some (V.ref p), some (V.int u), some (V.int d), none] H false := (ans_not (ans_val (val_isi (te := tVar 2) (cv := .ty "int") (val_var rfl) tyd kd (.ty _)))).to rfl
    by_cases d0 : d = 0
    · refine sA_yes (ans_or c1 (ans_or c2 (ans_eq (val_var rfl) val_c rfl (by rw [d0]; rfl)))) ?_
      exact bad d0
    · refine sA_no (ans_or c1 (ans_or c2 (ans_eq (b := false) (val_var rfl) val_c rfl (decide_eq_false fun e => d0 (by cases e; rfl))))) ?_
      refine sA_no (ans_or (ans_val (val_isi (val_var rfl) tyu ku' (.ty _))) (ans_val (val_isi (val_var rfl) tyd kd' (.ty _)))) ?_
      obtain ⟨bu, bd, q⟩ := good d0
      refine sA_set (fun Q q => ⟨_, rfl, _, rfl, u, d, rfl, q⟩) ?_
      refine ⟨fun σ H' => σ = [some (V.ref p), some (V.int u), some (V.int d), some (V.int (gc u d))] ∧ H' = H, ?_, ?_⟩
      · by_cases hd : d < 0
        · refine st_yes (ans_cmp (val_var rfl) val_c fun Q q => ⟨_, _, rfl, rfl, (show Q (.bl (decide (d < 0))) H by rw [decide_eq_true hd]; exact q)⟩) ?_
          refine st_set (fun Q q => ⟨_, rfl, _, rfl, q⟩) ⟨?_, rfl⟩
          unfold gc
          rw [if_pos hd]
          rfl
        · refine st_no (ans_cmp (val_var rfl) val_c fun Q q => ⟨_, _, rfl, rfl, (show Q (.bl (decide (d < 0))) H by rw [decide_eq_false hd]; exact q)⟩) ⟨?_, rfl⟩
          unfold gc
          rw [if_neg hd]
          rfl
      · rintro σ H' ⟨rfl, rfl⟩
        have cd : CDivX u (gc u d) := div_x (gc_ne d0) (gc_le d0 bd) (by decide) (by decide)
        refine ⟨_, rfl, _, rfl, _, _, rfl, rfl, cd, _, rfl, p, C, dx, [], rfl, hp, T.cl, T.nT, (by show 0 < 1000; decide), ?_⟩
        refine ⟨_, rfl, _, rfl, _, _, rfl, rfl, (show CDivX d (gc u d) from cd), _, rfl, p, C, dx, _, rfl, upd_same, T.cl, T.nB, (by show 1 < 1000; decide), ?_⟩
        rw [upd_upd]
        rw [flds_put]
        exact q
theorem ok_str (F : Fun K "__str__" "Ratio.__str__" sStr f fd) (B : Bl mg) : FnOk P w K mg base CX0 1 f fd ["self"] (spTxt C ratL) := by
  refine F.ok scStr (fun vs H Q E h => ?_) (fun cdv A outer s H vs Q E hr h => ?_)
  · obtain ⟨a, dx, t, b, rfl, _⟩ := h
    rfl
  · obtain ⟨a, dx, t, b, rfl, ea, s1, s2, q⟩ := h
    refine ⟨_, pss_cons (ps_if (pt_cmpR op_eq (pe_fld (pv 0) rfl) pe_int (nomark _)) (pss_one (ps_ret (pe_callTy call_str_int (by rfl) B.str (by decide +kernel) (pa_cons (pe_fld (pv 0) rfl) pa_nil)))) pss_nil)
      (pss_one (ps_ret (pe_joined (.cons (pe_fmt (pe_fld (pv 0) rfl)) (.cons pe_str (.cons (pe_fmt (pe_fld (pv 0) rfl)) .nil)))))), ?_⟩
    show tSeq _ _ _ [some (V.ref a)] H
    have top := v_top (σ := [some (V.ref a)]) (i := 0) T rfl ea
    have bot := v_bot (σ := [some (V.ref a)]) (i := 0) T rfl ea
    unfold ratL at q
    by_cases hb : b = 1
    · rw [if_pos hb] at q
      refine sA_yes (ans_eq bot val_c rfl (by rw [hb]; rfl)) ?_
      refine top _ ⟨t, rfl, log_of s1, ?_⟩
      show Q (.str (Str.ofString (toString t))) H
      rw [int_txt]
      exact q
    · rw [if_neg hb] at q
      refine sA_no (ans_eq (b := false) bot val_c rfl (decide_eq_false fun e => hb (by cases e; rfl))) ?_
      have l1 := intL_len s1
      have l2 := intL_len s2
      have big : 10000 ≤ sizeLine := by decide
      have e0 : Str.empty ++ Str.ofString (toString t) = S (intL t) := by
        rw [int_txt]
        exact S_cat [] (intL t)
      have e1 : S (intL t) ++ Str.ofString "/" = S (intL t ++ [47]) := S_cat (intL t) [47]
      have e2 : S (intL t ++ [47]) ++ Str.ofString (toString b) = S (intL t ++ 47 :: intL b) := by
        rw [int_txt, S_cat, List.append_assoc]
        rfl
      refine js_cons (v_fmt top s1) ?_ ?_
      · rw [e0, S_len]; omega
      rw [e0]
      refine js_cons val_c ?_ ?_
      · rw [e1, S_len, List.length_append]
        show _ + 1 ≤ _
        omega
      rw [e1]
      refine js_cons (v_fmt bot s2) ?_ ?_
      · rw [e2, S_len, List.length_append, List.length_cons]; omega
      rw [e2]
      exact q
theorem ok_repr (F : Fun K "__repr__" "Ratio.__repr__" sRepr f fd) : FnOk P w K mg base CX0 1 f fd ["self"] (spTxt C reprL) := by
  refine F.ok scRepr (fun vs H Q E h => ?_) (fun cdv A outer s H vs Q E hr h => ?_)
  · obtain ⟨a, dx, t, b, rfl, _⟩ := h
    rfl
  · obtain ⟨a, dx, t, b, rfl, ea, s1, s2, q⟩ := h
    refine ⟨_, pss_one (ps_ret (pe_joined (.cons pe_str (.cons (pe_fmt (pe_fld (pv 0) rfl)) (.cons pe_str (.cons (pe_fmt (pe_fld (pv 0) rfl)) (.cons pe_str .nil))))))), ?_⟩
    have top := v_top (σ := [some (V.ref a)]) (i := 0) T rfl ea
    have bot := v_bot (σ := [some (V.ref a)]) (i := 0) T rfl ea
    have l1 := intL_len s1
    have l2 := intL_len s2
    have big : 10000 ≤ sizeLine := by decide
    have e0 : Str.empty ++ Str.ofString "Ratio(" = S [82, 97, 116, 105, 111, 40] := S_cat [] [82, 97, 116, 105, 111, 40]
    have e1 : S [82, 97, 116, 105, 111, 40] ++ Str.ofString (toString t) = S ([82, 97, 116, 105, 111, 40] ++ intL t) := by
      rw [int_txt, S_cat]
    have e2 : S ([82, 97, 116, 105, 111, 40] ++ intL t) ++ Str.ofString ", " = S ([82, 97, 116, 105, 111, 40] ++ intL t ++ [44, 32]) := S_cat _ [44, 32]
    have e3 : S ([82, 97, 116, 105, 111, 40] ++ intL t ++ [44, 32]) ++ Str.ofString (toString b) = S ([82, 97, 116, 105, 111, 40] ++ intL t ++ [44, 32] ++ intL b) := by
      rw [int_txt, S_cat]
    have e4 : S ([82, 97, 116, 105, 111, 40] ++ intL t ++ [44, 32] ++ intL b) ++ Str.ofString ")" = S (reprL t b) := S_cat _ [41]
    have len : (reprL t b).length = 6 + (intL t).length + 2 + (intL b).length + 1 := by
      unfold reprL
      simp only [List.length_append, List.length_cons, List.length_nil]
    refine js_cons val_c ?_ ?_
    · rw [e0, S_len]; exact Nat.le_trans (by decide) big
    rw [e0]
    refine js_cons (v_fmt top s1) ?_ ?_
    · rw [e1, S_len, List.length_append]; show 6 + _ ≤ _; omega
    rw [e1]
    refine js_cons val_c ?_ ?_
    · rw [e2, S_len, List.length_append, List.length_append]; show 6 + _ + 2 ≤ _; omega
    rw [e2]
    refine js_cons (v_fmt bot s2) ?_ ?_
    · rw [e3, S_len, List.length_append, List.length_append, List.length_append]; show 6 + _ + 2 + _ ≤ _; omega
    rw [e3]
    refine js_cons val_c ?_ ?_
    · rw [e4, S_len, len]; omega
    rw [e4]
    exact q
theorem ok_eq (F : Fun K "__eq__" "Ratio.__eq__" sEq f fd) : FnOk P w K mg base CX0 1 f fd ["self", "other"] (spEq K C) := by
  refine F.ok scEq (fun vs H Q E h => ?_) (fun cdv A outer s H vs Q E hr h => ?_)
  · obtain ⟨a, dx, t1, b1, y, r, rfl, _⟩ := h
    rfl
  · obtain ⟨a, dx, t1, b1, y, r, rfl, ea, ⟨t, ty, kr⟩, no, yes⟩ := h
    refine ⟨_, pss_one (ps_ret (pe_and (pe_callB call_isi (by rfl) T.isi (by decide +kernel) (pa_cons (pv 1) (pa_cons (pe_glob (v := .ref C) (by rfl) T.gR rfl) pa_nil)))
      (pe_and (pe_cmpR op_eq (pe_fld (pv 0) rfl) (pe_fld (pv 1) rfl) (nomark _)) (pe_one (pe_cmpR op_eq (pe_fld (pv 0) rfl) (pe_fld (pv 1) rfl) (nomark _)))))), ?_⟩
    refine val_isi (val_var rfl) ty kr (.own C) _ ⟨r, rfl, ?_⟩
    cases r with
    | false => exact no rfl
    | true =>
      obtain ⟨b, dy, t2, b2, rfl, eb, q⟩ := yes rfl
      refine iteT (val_and (b := decide (t1 = t2)) (c := decide (b1 = b2)) (val_op (v_top T rfl ea) (v_top T rfl eb) fun Q q => ⟨rfl, ?_⟩) (fun _ => val_op (v_bot T rfl ea) (v_bot T rfl eb) fun Q q => ⟨rfl, ?_⟩) _ q)
      · rw [show decide (V.int t1 = V.int t2) = decide (t1 = t2) from decide_eq_decide.mpr ⟨fun e => by cases e; rfl, fun e => by rw [e]⟩]
        exact q
      · rw [show decide (V.int b1 = V.int b2) = decide (b1 = b2) from decide_eq_decide.mpr ⟨fun e => by cases e; rfl, fun e => by rw [e]⟩]
        exact q
end
end B3
set_option maxRecDepth 100000
set_option maxHeartbeats 4000000
set_option exponentiation.threshold 10000
namespace TX
open PySem PySem.NumText RX SX
theorem rp_S (a : List Nat) : Txt.removeprefix (S a) (S [45]) = S (stripm a) := by
  rw [StrLaws.removeprefix_eq]
  cases a with
  | nil => rfl
  | cons c r =>
    have e1 : Builtin.Str.subAt (S (c :: r)) (S [45]) 0 = decide (c = 45) := by
      unfold Builtin.Str.subAt
      have e : (S (c :: r)).cps.extract 0 (0 + (S [45]).length) = #[c] := by
        refine Array.toList_inj.mp ?_
        rw [S_len]
        simp [S]
      rw [e]
      show (#[c] == #[45]) = decide (c = 45)
      by_cases h : c = 45
      · subst h; rfl
      · rw [decide_eq_false h]
        refine beq_false_of_ne fun z => h ?_
        have := congrArg Array.toList z
        simpa using this
    rw [e1, S_len, S_len]
    by_cases h : c = 45
    · subst h
      rw [decide_eq_true rfl, decide_eq_true (by simp)]
      refine (if_pos rfl).trans ?_
      refine TL.ext_tl ?_
      show ((45 :: r).drop [45].length).take ((45 :: r).length - [45].length) = r
      simp
    · rw [decide_eq_false h, Bool.and_false]
      refine (if_neg (by decide)).trans ?_
      show S (c :: r) = S (if c = 45 then r else c :: r)
      rw [if_neg h]
theorem int_of {p : List Nat} (h : digs (stripm p) = true) : intText? (S p) = some (sval p) := by
  have hl : (stripm p).length ≤ 60 := by
    unfold digs at h
    simp only [Bool.and_eq_true, decide_eq_true_eq] at h
    exact h.1.2
  cases p with
  | nil => simp [stripm, digs] at h
  | cons c r =>
    by_cases hc : c = 45
    · subst hc
      have e1 : stripm (45 :: r) = r := rfl
      rw [e1] at h hl
      rw [intText_neg (x := S (45 :: r)) (cs := r) rfl (digs_all h) (digs_ne h) (by rw [S_len, List.length_cons]; omega)]
      rfl
    · have e1 : stripm (c :: r) = c :: r := if_neg hc
      rw [e1] at h hl
      rw [intText_digits (x := S (c :: r)) (digs_all h) (by simp) (by rw [S_len]; omega)]
      have e2 : sval (c :: r) = ((val (c :: r) : Nat) : Int) := if_neg (fun z => hc (Option.some.inj z))
      rw [e2]
theorem int_of' {p : List Nat} (h : digs p = true) : intText? (S p) = some ((val p : Nat) : Int) := by
  have hl : p.length ≤ 60 := by
    unfold digs at h
    simp only [Bool.and_eq_true, decide_eq_true_eq] at h
    exact h.1.2
  exact intText_digits (x := S p) (digs_all h) (digs_ne h) (by rw [S_len]; omega)
theorem val_lt : ∀ (w : List Nat), AllDigits w → val w < 10 ^ w.length := by
  intro w
  generalize hn : w.length = n
  induction n generalizing w with
  | zero =>
    intro _
    have : w = [] := List.length_eq_zero_iff.mp hn
    subst this
    exact Nat.one_pos
  | succ n ih =>
    intro hd
    obtain ⟨v, c, rfl⟩ := snoc_cases w (by rintro rfl; simp at hn)
    have dc := hd c (by simp)
    have q := ih v (by simp at hn; exact hn) (fun x hx => hd x (by simp [hx]))
    show NumText.digitsVal (v ++ [c]) < _
    rw [digitsVal_snoc, Nat.pow_succ]
    have q' : NumText.digitsVal v < 10 ^ n := q
    omega
theorem val_small {w : List Nat} (h : digs w = true) : val w < 2 ^ 200 := by
  have h1 := val_lt w (digs_all h)
  have hl : w.length ≤ 60 := by
    unfold digs at h
    simp only [Bool.and_eq_true, decide_eq_true_eq] at h
    exact h.1.2
  exact Nat.lt_of_lt_of_le h1 (Nat.le_trans (Nat.pow_le_pow_right (by decide) hl) (by decide))
theorem sval_small {p : List Nat} (h : digs (stripm p) = true) : (sval p).natAbs < 2 ^ 200 := by
  cases p with
  | nil => simp [stripm, digs] at h
  | cons c r =>
    by_cases hc : c = 45
    · subst hc
      have := val_small (w := r) h
      show (-((val r : Nat) : Int)).natAbs < _
      rw [Int.natAbs_neg, Int.natAbs_natCast]
      exact this
    · have e1 : stripm (c :: r) = c :: r := if_neg hc
      rw [e1] at h
      have e2 : sval (c :: r) = ((val (c :: r) : Nat) : Int) := if_neg (fun z => hc (Option.some.inj z))
      rw [e2, Int.natAbs_natCast]
      exact val_small h
theorem cut_part (l : List Nat) : Txt.partition (S l) (S [47]) = (S (cut l).1, S (if (cut l).2.1 then [47] else []), S (cut l).2.2) := by
  unfold cut
  cases e : TL.par [47] [] l with
  | none => exact SX.partition_none (by simp) e
  | some pq => exact SX.partition_some (p := pq.1) (q := pq.2) (by simp) e
theorem cut_len (l : List Nat) : (cut l).1.length ≤ l.length ∧ (cut l).2.2.length ≤ l.length := by
  by_cases h : 47 ∈ l
  · obtain ⟨p, q, rfl, n⟩ := split_first h
    have ec : cut (p ++ 47 :: q) = (p, true, q) := by
      unfold cut
      rw [show p ++ 47 :: q = p ++ ([47] ++ q) from rfl, TL.par_part1 n, List.nil_append]
    rw [ec, List.length_append, List.length_cons]
    exact ⟨by show p.length ≤ _; omega, by show q.length ≤ _; omega⟩
  · have ec : cut l = (l, false, []) := by
      unfold cut
      rw [TL.par_none1 h]
    rw [ec]
    exact ⟨Nat.le_refl _, Nat.zero_le _⟩
theorem stripm_len (a : List Nat) : (stripm a).length ≤ a.length := by
  cases a with
  | nil => exact Nat.le_refl _
  | cons c r =>
    show (if c = 45 then r else c :: r).length ≤ (c :: r).length
    split
    · rw [List.length_cons]; omega
    · exact Nat.le_refl _
theorem stripm_len1 (a : List Nat) : a.length ≤ (stripm a).length + 1 := by
  cases a with
  | nil => exact Nat.zero_le _
  | cons c r =>
    show (c :: r).length ≤ (if c = 45 then r else c :: r).length + 1
    split
    · exact Nat.le_refl _
    · omega
end TX
namespace B3
open PySem PySem.Spec PyProof.Rows L2 RX LP SX TX
abbrev psI : List Str := ["self", "top", "bottom"]
/-- a def of the class that is found by an operator -/
def OpF (P : Program) (w : World) (K : PySem.W.Frag) (mg : Str → Option Value) (base : Heap) (CX : CXT) (k : Nat) (C : Addr) (ps : List Str) (name : Str) (sp : Sp) : Prop := ∃ (f : Addr) (fd : FuncData), FnOk P w K mg base CX k f fd ps sp ∧ Own K C f name ∧ Binds K fd ps []
/-- the class's own maker -/
structure RMk (P : Program) (w : World) (K : PySem.W.Frag) (mg : Str → Option Value) (base : Heap) (C CI fI : Addr) (fdI : FuncData) : Prop where
  mkc : Mk K C fI
  ok : FnOk P w K mg base (L2.CX P w) 1 fI fdI psI (spInit C CI)
  b2 : Binds K fdI psI []
theorem sA_setR {te : TE} {σ : L2.St} {H : Hp} {u : TS} {D : Ends} {i : Nat} (h : te σ H fun v H1 => u D (σ.set i (some v)) H1) : tSeq (tAsg te (gName i)) u D σ H := h
theorem lt_grow {n a b : Nat} (h : n < 2 ^ a) (hab : a ≤ b) : n < 2 ^ b := Nat.lt_of_lt_of_le h (Nat.pow_le_pow_right (by decide) hab)
theorem grow_make {H : Hp} {C x dx : Addr} {o : HO} (nx : H x = none) (ndx : H dx = none) (ne : dx ≠ x) : Grow H (upd (upd (upd H dx (.own x)) x (.ins C dx [])) x o) := fun b u e => by
  rw [upd_upd, upd_ne (ne_of_none e nx), upd_ne (ne_of_none e ndx)]
  exact e
theorem grow_new2 {H : Hp} {C x dx : Addr} (nx : H x = none) (ndx : H dx = none) (ne : dx ≠ x) : Grow H (upd (upd H dx (.own x)) x (.ins C dx [])) := fun b u e => by
  rw [upd_ne (ne_of_none e nx), upd_ne (ne_of_none e ndx)]
  exact e
/-- Ratio.read(x) -/
def spRead (K : PySem.W.Frag) (C CI : Addr) : Sp := fun vs H Q E => ∃ x, vs = [.ref C, x] ∧
  ((∃ l : List Nat, x = .str (S l) ∧ l.length ≤ 50000 ∧ (∀ t b, progR l = some (t, b) → ∀ v H', Grow H H' → RatP C t b v H' → Q v H') ∧ (progR l = none → ∀ H', Grow H H' → E (.ref CI) none H'))
  ∨ (∃ t, TyX K H x t ∧ PySem.W.kitOne K t (.type "str") = some false ∧ E (.ref CI) none H))
section
variable {P : Program} {w : World} {K : PySem.W.Frag} {mg : Str → Option Value} {base : Heap} {C CI CQ f fI fA fS : Addr} {fd fdI fdA fdS : FuncData}
abbrev nsRead : List Str := ["cls", "text", "head", "slash", "tail", "bottom", "ratio"]
theorem scRead : FnScope nsRead ["cls", "text"] (defScope sRead) := ⟨rfl, rfl, rfl, by decide +kernel, rfl, by decide +kernel, by decide +kernel⟩
theorem dec_S {a b : List Nat} : decide (V.str (S a) = V.str (S b)) = decide (a = b) := decide_eq_decide.mpr ⟨fun e => S_inj (V.str.inj e), fun e => by rw [e]⟩
theorem ok_read (F : Fun K "read" "Ratio.read" sRead f fd) (T : RTx K mg C CI CQ) (B : Bl mg) (R : RMk P w K mg base C CI fI fdI) (GA : FnOk P w K mg base CX0 1 fA fdA ["word"] spDig) (DA : At K mg "_are_digits" fA fdA ["word"])
    (GS : FnOk P w K mg base CX0 1 fS fdS ["self"] (spTxt C ratL)) (OS : Own K C fS "__str__") (bS : Binds K fdS ["self"] []) :
    FnOk P w K mg base (L2.CX P w) 4 f fd ["cls", "text"] (spRead K C CI) := by
  refine F.okX scRead (fun vs H Q E h => ?_) (fun cdv A outer s H vs Q E hr h => ?_)
  · obtain ⟨x, rfl, _⟩ := h
    rfl
  · obtain ⟨x, rfl, h⟩ := h
    have nd := scRead.nd
    refine ⟨_, pss_cons (ps_if (pt_not (pt_val (pe_callB call_isi (by rfl) T.isi (by decide +kernel) (pa_cons (pv 1) (pa_cons (pe_bltn (v := .ty "str") (by rfl) B.str (by decide +kernel) rfl) pa_nil)))))
        (pss_one (ps_raise rfl (takes_of rfl rfl rfl rfl) (pmk_own0 PySem.F.excBase_ValueError T.xI T.gI T.kI (raises_own T.bI T.tI) (by rfl)))) pss_nil)
      (pss_cons (ps_asg (pe_partition (pv 1) pe_str) (pg_tup (by rfl) (pgs_cons (pg_name (i := 2) nd rfl (Or.inl rfl)) (pgs_cons (pg_name (i := 3) nd rfl (Or.inl rfl)) (pgs_cons (pg_name (i := 4) nd rfl (Or.inl rfl)) pgs_nil)))))
      (pss_cons (ps_set (i := 5) nd rfl (Or.inl rfl) (pe_ifExp (pt_truth (pv 3) (by intro _; rfl)) (pv 4) pe_str))
      (pss_cons (ps_if (PW.pt (pw_or (pt_not (pt_val (pe_call GA (hr.mono (by decide)) (by rfl) DA.mg DA.kp DA.b .nil pass0 (pa_cons (pe_bm PySem.F.plainAttrs_str PySem.F.slot_str_removeprefix PySem.F.type_str_removeprefix mt_removeprefix (pv 2) (pa_cons pe_str pa_nil)) pa_nil))))
          (pw_or1 (pt_not (pt_val (pe_call GA (hr.mono (by decide)) (by rfl) DA.mg DA.kp DA.b .nil pass0 (pa_cons (pv 5) pa_nil)))))))
        (pss_one (ps_raise rfl (takes_of rfl rfl rfl rfl) (pmk_own0 PySem.F.excBase_ValueError T.xI T.gI T.kI (raises_own T.bI T.tI) (by rfl)))) pss_nil)
      (pss_cons (ps_set (i := 6) nd rfl (Or.inl rfl) (pe_make R.mkc R.ok (hr.mono (by decide)) (by rfl) T.gR R.b2 .nil (passes_call (E := E) (takes_of rfl rfl rfl rfl) fun _ _ _ _ z => z) (pa_cons (pe_callTy call_int_str (by rfl) T.int (by decide +kernel) (pa_cons (pv 2) pa_nil)) (pa_cons (pe_callTy call_int_str (by rfl) T.int (by decide +kernel) (pa_cons (pv 5) pa_nil)) pa_nil))))
      (pss_cons (ps_if (pt_cmpR op_ne (pe_callTy (call_strO GS OS (hr.mono (by decide)) bS (E := E0) pass0) (by rfl) B.str (by decide +kernel) (pa_cons (pv 6) pa_nil)) (pv 1) (nomark _))
        (pss_one (ps_raise rfl (takes_of rfl rfl rfl rfl) (pmk_own0 PySem.F.excBase_ValueError T.xI T.gI T.kI (raises_own T.bI T.tI) (by rfl)))) pss_nil)
      (pss_one (ps_ret (pv 6)))))))), ?_⟩
    show tSeq _ _ _ [some (V.ref C), some x, none, none, none, none, none] H
    rcases h with ⟨l, rfl, hl, good, bad⟩ | ⟨t, ty, kt, bad⟩
    · have big : 100000 ≤ sizeLine := by decide
      refine sA_no (ans_not (ans_val (b := true) (val_isi (val_var rfl) (.base (.str _)) (kit_ty (by decide +kernel)) (.ty _)))) ?_
      refine ⟨_, rfl, ⟨_, rfl⟩, _, _, rfl, rfl, rfl, by rw [S_len]; omega, fun p hp => ?_⟩
      have ep : Txt.partition (S l) (Str.ofString "/") = (S (cut l).1, S (if (cut l).2.1 then [47] else []), S (cut l).2.2) := cut_part l
      rw [ep]
      have g1 : Grow H (upd H p (.tup [.str (S (cut l).1), .str (S (if (cut l).2.1 then [47] else [])), .str (S (cut l).2.2)])) := grow_new hp
      refine ⟨p, _, rfl, SqT.of upd_same, rfl, _, _, rfl, _, _, rfl, _, _, rfl, rfl, ?_⟩
      show tSeq _ _ _ [some (V.ref C), some (V.str (S l)), some (V.str (S (cut l).1)), some (V.str (S (if (cut l).2.1 then [47] else []))), some (V.str (S (cut l).2.2)), none, none] (upd H p _)
      generalize upd H p (.tup [.str (S (cut l).1), .str (S (if (cut l).2.1 then [47] else [])), .str (S (cut l).2.2)]) = H1 at g1 ⊢
      have hcut := cut_len l
      have hb : ∃ b : List Nat, b = (if (cut l).2.1 then (cut l).2.2 else [49]) ∧ b.length ≤ 50000 := ⟨_, rfl, by split; omega; decide⟩
      obtain ⟨b, eb, bl⟩ := hb
      have s5 : Val (tIf (fun σ H Q => tVar 3 σ H fun x H' => ∃ k, TruV K x H' k ∧ Q k H') (tVar 4) (tC (.str (Str.ofString "1")))) [some (V.ref C), some (V.str (S l)), some (V.str (S (cut l).1)), some (V.str (S (if (cut l).2.1 then [47] else []))), some (V.str (S (cut l).2.2)), none, none] H1 (.str (S b)) := by
        intro Q q
        refine ⟨_, rfl, (cut l).2.1, ⟨?_, ?_⟩, ?_⟩
        · rw [S_len]
          have h3 : (if (cut l).2.1 = true then [47] else ([] : List Nat)).length ≤ 1 := by split <;> decide
          omega
        · rw [S_len]
          cases (cut l).2.1 <;> rfl
        · cases e : (cut l).2.1 with
          | true =>
            refine iteT ⟨_, rfl, ?_⟩
            rw [e] at eb
            rw [eb] at q
            exact q
          | false =>
            refine iteF ?_
            rw [e] at eb
            rw [eb] at q
            exact q
      refine sA_set s5 ?_
      show tSeq _ _ _ [some (V.ref C), some (V.str (S l)), some (V.str (S (cut l).1)), some (V.str (S (if (cut l).2.1 then [47] else []))), some (V.str (S (cut l).2.2)), some (V.str (S b)), none] H1
      have eh : Txt.removeprefix (S (cut l).1) (Str.ofString "-") = S (stripm (cut l).1) := rp_S _
      have c1 : EvB (tNot (tB (tCall spDig [] E0 (tCons (tBM K "str" (fun x xs H Q => ∃ a b, x = V.str a ∧ xs = [V.str b] ∧ a.length ≤ sizeLine ∧ Q (V.str (Txt.removeprefix a b)) H) (tVar 2) (tCons (tC (.str (Str.ofString "-"))) tNil)) tNil))))
          [some (V.ref C), some (V.str (S l)), some (V.str (S (cut l).1)), some (V.str (S (if (cut l).2.1 then [47] else []))), some (V.str (S (cut l).2.2)), some (V.str (S b)), none] H1 (!digs (stripm (cut l).1)) :=
        evb_not (evb_val fun H2 g Q q => ⟨_, rfl, rfl, _, _, rfl, rfl, by rw [S_len]; omega, stripm (cut l).1, by rw [eh]; rfl, Nat.le_trans (stripm_len _) (by omega), fun H3 g3 => q _ _ g3 rfl⟩)
      have c2 : EvB (tNot (tB (tCall spDig [] E0 (tCons (tVar 5) tNil))))
          [some (V.ref C), some (V.str (S l)), some (V.str (S (cut l).1)), some (V.str (S (if (cut l).2.1 then [47] else []))), some (V.str (S (cut l).2.2)), some (V.str (S b)), none] H1 (!digs b) :=
        evb_not (evb_val fun H2 g Q q => ⟨_, rfl, b, rfl, by omega, fun H3 g3 => q _ _ g3 rfl⟩)
      have ePr : progR l = if !digs (stripm (cut l).1) || !digs b then none else if (val b : Int) = 0 then none else if ratL (tp (sval (cut l).1) (val b)) (bt (sval (cut l).1) (val b)) = l then some (tp (sval (cut l).1) (val b), bt (sval (cut l).1) (val b)) else none := by
        unfold progR
        rw [← eb]
      cases d1 : digs (stripm (cut l).1) with
      | false =>
        refine sq_yes (evb_or1 (c1.to (by rw [d1]; rfl))) fun H2 g2 => ?_
        exact bad (by rw [ePr, d1]; rfl) H2 (g1.tr g2)
      | true =>
        cases d2 : digs b with
        | false =>
          refine sq_yes (evb_or (c1.to (by rw [d1]; rfl)) (c2.to (by rw [d2]; rfl))) fun H2 g2 => ?_
          exact bad (by rw [ePr, d1, d2]; rfl) H2 (g1.tr g2)
        | true =>
          refine sq_no (evb_or (c1.to (by rw [d1]; rfl)) (c2.to (by rw [d2]; rfl))) fun H2 g2 => ?_
          have i1 := int_of d1
          have i2 := int_of' d2
          have z1 := sval_small d1
          have z2 : ((val b : Nat) : Int).natAbs < 2 ^ 200 := by rw [Int.natAbs_natCast]; exact val_small d2
          have l1 : (cut l).1.length ≤ 61 := by
            have : (stripm (cut l).1).length ≤ 60 := by
              unfold digs at d1
              simp only [Bool.and_eq_true, decide_eq_true_eq] at d1
              exact d1.1.2
            have := stripm_len1 (cut l).1
            omega
          have l2 : b.length ≤ 60 := by
            unfold digs at d2
            simp only [Bool.and_eq_true, decide_eq_true_eq] at d2
            exact d2.1.2
          refine sA_setR ?_
          refine ⟨_, rfl, _, _, rfl, i1, by rw [S_len]; omega, _, rfl, _, _, rfl, i2, by rw [S_len]; omega, fun a dx na nd' ne => ?_⟩
          refine ⟨a, dx, sval (cut l).1, ((val b : Nat) : Int), rfl, upd_same, fun d0 => ⟨lt_grow z1 (by decide), lt_grow z2 (by decide), rfl, ?_⟩, fun d0 => ?_⟩
          · have g3 : Grow H2 (upd (upd (upd H2 dx (.own a)) a (.ins C dx [])) a (.ins C dx (flds (tp (sval (cut l).1) (val b)) (bt (sval (cut l).1) (val b))))) := grow_make na nd' ne
            have hA : (upd (upd (upd H2 dx (.own a)) a (.ins C dx [])) a (.ins C dx (flds (tp (sval (cut l).1) (val b)) (bt (sval (cut l).1) (val b))))) a = some (.ins C dx (flds (tp (sval (cut l).1) (val b)) (bt (sval (cut l).1) (val b)))) := upd_same
            show tSeq (tIfS _ _ _) _ _ [some (V.ref C), some (V.str (S l)), some (V.str (S (cut l).1)), some (V.str (S (if (cut l).2.1 then [47] else []))), some (V.str (S (cut l).2.2)), some (V.str (S b)), some (V.ref a)] _
            generalize upd (upd (upd H2 dx (.own a)) a (.ins C dx [])) a (.ins C dx (flds (tp (sval (cut l).1) (val b)) (bt (sval (cut l).1) (val b)))) = H3 at g3 hA ⊢
            have cmp : Ans (tTest (tOp rNe (tCB (rTxtO C (spTxt C ratL) E0) (tCons (tVar 6) tNil)) (tVar 1))) [some (V.ref C), some (V.str (S l)), some (V.str (S (cut l).1)), some (V.str (S (if (cut l).2.1 then [47] else []))), some (V.str (S (cut l).2.2)), some (V.str (S b)), some (V.ref a)] H3 (!decide (ratL (tp (sval (cut l).1) (val b)) (bt (sval (cut l).1) (val b)) = l)) := by
              refine ans_ne (fun Q q => ⟨_, rfl, a, dx, _, rfl, hA, a, dx, _, _, rfl, hA, lt_grow (Nat.lt_of_le_of_lt (tp_le _ _) z1) (by decide), lt_grow (Nat.lt_of_le_of_lt (bt_le _ _) z2) (by decide), _, rfl, q⟩) (val_var rfl) rfl ?_
              rw [dec_S]
            by_cases er : ratL (tp (sval (cut l).1) (val b)) (bt (sval (cut l).1) (val b)) = l
            · refine sA_no (cmp.to (by rw [decide_eq_true er]; rfl)) ?_
              refine st_ret (val_var rfl) ?_
              refine good _ _ ?_ _ _ ((g1.tr g2).tr g3) ⟨a, dx, rfl, hA⟩
              rw [ePr, d1, d2]
              refine (if_neg (by decide)).trans ?_
              rw [if_neg d0, if_pos er]
            · refine sA_yes (cmp.to (by rw [decide_eq_false er]; rfl)) ?_
              refine bad ?_ H3 ((g1.tr g2).tr g3)
              rw [ePr, d1, d2]
              refine (if_neg (by decide)).trans ?_
              rw [if_neg d0, if_neg er]
          · refine bad ?_ _ ((g1.tr g2).tr (grow_new2 na nd' ne))
            rw [ePr, d1, d2]
            refine (if_neg (by decide)).trans ?_
            rw [if_pos d0]
    · refine sA_yes (ans_not (ans_val (b := false) (val_isi (val_var rfl) ty kt (.ty _)))) ?_
      exact bad
end
end B3
set_option maxRecDepth 100000
set_option maxHeartbeats 4000000
namespace B3
open PySem PySem.Spec PyProof.Rows L2
abbrev sPen : Stmt := top 12
abbrev sDraw : Stmt := top 13
/-- what stands may change at p alone -/
def But (p : Addr) (H H' : Hp) : Prop := ∀ a o, a ≠ p → H a = some o → H' a = some o
theorem But.refl {p : Addr} {H : Hp} : But p H H := fun _ _ _ h => h
theorem But.trans {p : Addr} {H H1 H2 : Hp} (x : But p H H1) (y : But p H1 H2) : But p H H2 := fun a o n h => y a o n (x a o n h)
theorem But.new {p q : Addr} {H : Hp} {o : HO} (h : H q = none) : But p H (upd H q o) := fun a u _ e => by
  rw [upd_ne (ne_of_none e h)]
  exact e
theorem But.put {p : Addr} {H : Hp} {o : HO} : But p H (upd H p o) := fun a u n e => by
  rw [upd_ne n]
  exact e
/-- the pen at p: the script's numbers, at l; how many were read; what is left of a large one -/
structure PenAt (H : Hp) (p l : Addr) (ns : List Int) (k r : Int) : Prop where
  pen : H p = some (.lst [.ref l, .int k, .int r])
  lst : H l = some (.lst (ns.map V.int))
  ne : l ≠ p
  len : ns.length ≤ 63
  k0 : 0 ≤ k
theorem PenAt.but {H H' : Hp} {p l : Addr} {ns : List Int} {k r k' r' : Int} (P : PenAt H p l ns k r) (b : But p H H') (h : H' p = some (.lst [.ref l, .int k', .int r'])) (h0 : 0 ≤ k') : PenAt H' p l ns k' r' := ⟨h, b l _ P.ne P.lst, P.ne, P.len, h0⟩
def spPen (K : PySem.W.Frag) : Sp := fun vs H Q _ => ∃ (a : Addr) (ns : List Int), vs = [.ref a] ∧ SqL K H a (ns.map V.int) ∧ ns.length ≤ 63 ∧
  ∀ (p l : Addr) (H' : Hp), H p = none → (∀ b o, H b = some o → H' b = some o) → PenAt H' p l ns 0 0 → Q (.ref p) H'
def spDraw : Sp := fun vs H Q _ => ∃ (p l : Addr) (ns : List Int) (k r many : Int), vs = [.ref p, .int many] ∧ PenAt H p l ns k r ∧ k ≤ 10000 ∧ 0 < many ∧ many < 2 ^ 200 ∧
  ∀ (d k' r' : Int) (H' : Hp), 0 ≤ d → d < many → k' ≤ k + 1 → But p H H' → PenAt H' p l ns k' r' → Q (.int d) H'
theorem cut63 {ns : List Int} (h : ns.length ≤ 63) : cutV (ns.map V.int) none (some 63) = ns.map V.int := by
  unfold cutV
  rw [HT.sIx_none, show (some (63 : Int)) = some ((63 : Nat) : Int) from rfl, HT.sIx_nat, List.drop_zero, List.length_map]
  exact List.take_of_length_le (by rw [List.length_map]; omega)
theorem dpInts {K : PySem.W.Frag} {H : Hp} : ∀ ns : List Int, DpAll K H (ns.map V.int) (ns.map PyData.int)
  | [] => .nil
  | n :: r => .cons (.int n) (dpInts r)
theorem canInts : ∀ ns : List Int, PyData.canLayAll0 (ns.map PyData.int) = true
  | [] => rfl
  | n :: r => by
    show (PyData.canLay0 (PyData.int n) && PyData.canLayAll0 (r.map PyData.int)) = true
    rw [canInts r]
    rfl
theorem depInts : ∀ ns : List Int, PyData.depthAll (ns.map PyData.int) = 0
  | [] => rfl
  | n :: r => by
    show max (PyData.depth (PyData.int n)) (PyData.depthAll (r.map PyData.int)) = 0
    rw [depInts r]
    rfl
theorem shInts {ns : List Int} : SeqAt.shaped (PyData.list (ns.map PyData.int)) = true := by
  unfold SeqAt.shaped
  rw [show PyData.canLay0 (PyData.list (ns.map PyData.int)) = true from canInts ns]
  refine decide_eq_true ?_
  show PyData.depthAll (ns.map PyData.int) + 1 ≤ 64
  rw [depInts ns]
  decide
theorem fm0 {i j : Int} (h : 0 < j) : 0 ≤ i.fmod j := by
  rw [Int.fmod_eq_emod_of_nonneg _ (Int.le_of_lt h)]
  exact Int.emod_nonneg _ (Int.ne_of_gt h)
theorem fm1 {i j : Int} (h : 0 < j) : i.fmod j < j := by
  rw [Int.fmod_eq_emod_of_nonneg _ (Int.le_of_lt h)]
  exact Int.emod_lt_of_pos _ h
section
variable {P : Program} {w : World} {K : PySem.W.Frag} {mg : Str → Option Value} {base : Heap}
theorem scPen : FnScope ["_law_script"] ["_law_script"] (defScope sPen) := ⟨rfl, rfl, rfl, by decide +kernel, rfl, by decide +kernel, by decide +kernel⟩
theorem ok_pen {f : Addr} {fd : FuncData} (F : Fun K "_law_pen" "_law_pen" sPen f fd) (T : Bl mg) : FnOk P w K mg base CX0 1 f fd ["_law_script"] (spPen K) := by
  refine F.ok scPen (fun vs H Q E h => ?_) (fun cdv A outer s H vs Q E hr h => ?_)
  · obtain ⟨a, ns, rfl, _⟩ := h
    rfl
  · obtain ⟨a, ns, rfl, hS, hl, k⟩ := h
    refine ⟨_, pss_one (ps_ret (pe_lst (pa_cons (pe_callTy call_list_of (by rfl) T.list (by decide +kernel) (pa_cons (pe_slice sl_list (pv 0) po_none (po_some pe_int)) pa_nil)) (pa_cons pe_int (pa_cons pe_int pa_nil))))), ?_⟩
    refine ⟨_, rfl, _, rfl, a, _, rfl, hS, fun c hc => ?_⟩
    refine ⟨c, _, rfl, .inl (SqL.of upd_same), fun l hl' => ?_⟩
    refine ⟨(by show 3 ≤ sizeLine; decide), fun p hp => ?_⟩
    rw [cut63 hl] at hl' hp ⊢
    have nlc : l ≠ c := fun e => by
      rw [e, upd_same] at hl'
      cases hl'
    have npl : p ≠ l := fun e => by
      rw [e, upd_same] at hp
      cases hp
    have npc : p ≠ c := fun e => by
      rw [upd_ne npl, e, upd_same] at hp
      cases hp
    rw [upd_ne nlc] at hl'
    rw [upd_ne npl, upd_ne npc] at hp
    refine k p l _ hp (fun b o e => ?_) ⟨upd_same, by rw [upd_ne npl.symm, upd_same], npl.symm, hl, by decide⟩
    rw [upd_ne (ne_of_none e hp), upd_ne (ne_of_none e hl'), upd_ne (ne_of_none e hc)]
    exact e
theorem scDraw : FnScope ["_law_pen_here", "_law_many", "_law_digit", "_law_at", "_law_cell", "_law_large", "_law_mixed"] ["_law_pen_here", "_law_many"] (defScope sDraw) := ⟨rfl, rfl, rfl, by decide +kernel, rfl, by decide +kernel, by decide +kernel⟩
theorem ok_draw {f : Addr} {fd : FuncData} (F : Fun K "_law_draw" "_law_draw" sDraw f fd) (T : Bl mg) : FnOk P w K mg base CX0 1 f fd ["_law_pen_here", "_law_many"] spDraw := by
  refine F.ok scDraw (fun vs H Q E h => ?_) (fun cdv A outer s H vs Q E hr h => ?_)
  · obtain ⟨p, l, ns, k, r, many, rfl, _⟩ := h
    rfl
  · obtain ⟨p, l, ns, k, r, many, rfl, hP, hk, hm0, hm1, q⟩ := h
    have nd := scDraw.nd
    refine ⟨_, (pss_cons
        (ps_if (pt_cmpR op_gt (pe_ix ix_list (pv 0) pe_int (fun _ _ => rfl)) pe_int (nomark _))
          (pss_cons
            (ps_set (i := 2) nd rfl (Or.inl rfl) (pe_op op_modN (pe_callTy call_int1 (by rfl) T.int (by decide +kernel) (pa_cons (pe_ix ix_list (pv 0) pe_int (fun _ _ => rfl)) pa_nil)) (pv 1)))
          (pss_cons
            (ps_asg (pe_op op_fdivW (pe_callTy call_int1 (by rfl) T.int (by decide +kernel) (pa_cons (pe_ix ix_list (pv 0) pe_int (fun _ _ => rfl)) pa_nil)) (pv 1)) (pg_sub (pv 0) pe_int set_list))
          (pss_one
            (ps_ret (pv 2)))))
          pss_nil)
      (pss_cons
        (ps_set (i := 3) nd rfl (Or.inl rfl) (pe_ix ix_list (pv 0) pe_int (fun _ _ => rfl)))
      (pss_cons
        (ps_asg (pe_op op_add (pv 3) pe_int) (pg_sub (pv 0) pe_int set_list))
      (pss_cons
        (ps_set (i := 4) nd rfl (Or.inl rfl) (pe_op op_add (pe_op op_mul pe_int (pv 3)) pe_int))
      (C8.pss_cut
        (ps_if (pt_cmpR (op_neD hr.units) (pe_ix ix_list (pv 0) pe_int (fun _ _ => rfl)) (pe_lst pa_nil) (nomark _))
          (pss_one
            (ps_set (i := 4) nd rfl (Or.inl rfl) (pe_ix ix_list (pe_ix ix_list (pv 0) pe_int (fun _ _ => rfl)) (pe_op op_modN (pe_callTy call_int1 (by rfl) T.int (by decide +kernel) (pa_cons (pv 3) pa_nil)) (pe_callB call_len_seq (by rfl) T.len PySem.boot_len (pa_cons (pe_ix ix_list (pv 0) pe_int (fun _ _ => rfl)) pa_nil))) (fun _ _ => rfl))))
          pss_nil)
      (pss_cons
        (ps_if (PW.pt (pw_and (pt_cmpR op_lt (pv 3) (pe_callB call_len_seq (by rfl) T.len PySem.boot_len (pa_cons (pe_ix ix_list (pv 0) pe_int (fun _ _ => rfl)) pa_nil)) (nomark _)) (pw_and1 (pt_cmpR op_ge (pe_callB call_abs (by rfl) T.abs (by decide +kernel) (pa_cons (pv 4) pa_nil)) (pe_op op_pow pe_int pe_int) (nomark _)))))
          (pss_cons
            (ps_set (i := 5) nd rfl (Or.inl rfl) (pe_op op_add (pe_op op_mul pe_int (pe_callB call_abs (by rfl) T.abs (by decide +kernel) (pa_cons (pv 4) pa_nil))) (pe_callTy call_int1 (by rfl) T.int (by decide +kernel) (pa_cons (pe_cmpR op_lt (pv 4) pe_int (nomark _)) pa_nil))))
          (pss_cons
            (ps_asg (pe_op op_fdivW (pv 5) (pv 1)) (pg_sub (pv 0) pe_int set_list))
          (pss_one
            (ps_ret (pe_op op_modN (pe_callTy call_int1 (by rfl) T.int (by decide +kernel) (pa_cons (pv 5) pa_nil)) (pv 1))))))
          pss_nil)
      (pss_cons
        (ps_set (i := 6) nd rfl (Or.inl rfl) (pe_op op_modN (pe_callTy call_int1 (by rfl) T.int (by decide +kernel) (pa_cons (pe_op op_pow (pe_op op_add (pe_op op_add (pe_op op_modN (pe_callTy call_int1 (by rfl) T.int (by decide +kernel) (pa_cons (pv 4) pa_nil)) pe_int) (pe_op op_mul pe_int (pv 3))) pe_int) pe_int) pa_nil)) pe_int))
      (pss_cons
        (ps_set (i := 6) nd rfl (Or.inl rfl) (pe_op op_modN (pe_callTy call_int1 (by rfl) T.int (by decide +kernel) (pa_cons (pe_op op_pow (pe_op op_add (pe_op op_add (pe_op op_mul (pv 6) (pe_op op_add (pe_op op_mul pe_int (pv 3)) pe_int)) (pe_op op_mul (pe_op op_mul pe_int (pv 3)) (pv 3))) pe_int) pe_int) pa_nil)) pe_int))
      (pss_one
        (ps_ret (pe_op op_modN (pe_callTy call_int1 (by rfl) T.int (by decide +kernel) (pa_cons (pe_op op_fdiv (pv 6) pe_int) pa_nil)) (pv 1)))))))))))), ?_⟩
    have ix : ∀ {σ : L2.St} {H : Hp} {k r : Int} {i : Int} {v : V}, H p = some (.lst [.ref l, .int k, .int r]) → σ[0]? = some (some (.ref p)) → atI [V.ref l, .int k, .int r] i = some v → Val (tOp (rIxL K) (tVar 0) (tC (.int i))) σ H v :=
      fun h0 h h1 => val_op (val_var h) val_c fun Q q => ⟨p, _, _, _, rfl, rfl, SqL.of h0, h1, q⟩
    have int1 : ∀ {te : TE} {σ : L2.St} {H : Hp} {i : Int}, Val te σ H (.int i) → Val (tCB (fun xs H Q => (∃ i, xs = [.int i] ∧ Q (.int i) H) ∨ ∃ k, xs = [.bl k] ∧ Q (.int (if k then 1 else 0)) H) (tCons te tNil)) σ H (.int i) :=
      fun h Q q => h _ (.inl ⟨_, rfl, q⟩)
    show tSeq _ _ _ [some (V.ref p), some (V.int many), none, none, none, none, none] H
    refine st_seq ?_
    by_cases c1 : 0 < r
    · refine st_yes (ans_gt (ix hP.pen rfl rfl) (decide_eq_true c1)) ?_
      refine st_seq (st_set (val_op (int1 (ix hP.pen rfl rfl)) (val_var rfl) fun Q q => ⟨_, _, rfl, rfl, by omega, q⟩) ?_)
      refine st_seq ?_
      refine val_op (int1 (ix hP.pen rfl rfl)) (val_var rfl) (fun Q q => ⟨_, _, rfl, rfl, wide_div hm0 (b := 200) (by omega) (by decide) (by decide), q⟩) _ ?_
      refine ⟨_, rfl, _, _, _, _, rfl, rfl, hP.pen, rfl, ?_⟩
      refine st_ret (val_var rfl) ?_
      exact q _ _ _ _ (by rw [Int.fmod_eq_emod_of_nonneg _ (by omega)]; exact Int.emod_nonneg _ (by omega)) (by rw [Int.fmod_eq_emod_of_nonneg _ (by omega)]; exact Int.emod_lt_of_pos _ hm0) (by omega) But.put (hP.but But.put upd_same hP.k0)
    refine st_no (ans_gt (ix hP.pen rfl rfl) (decide_eq_false c1)) ?_
    refine st_seq (st_set (ix hP.pen rfl rfl) ?_)
    refine st_seq ?_
    refine val_op (val_var rfl) val_c (fun Q q => ⟨_, _, rfl, rfl, q⟩) _ ?_
    refine ⟨_, rfl, _, _, _, _, rfl, rfl, hP.pen, rfl, ?_⟩
    have hP1 : PenAt (upd H p (.lst [.ref l, .int (k + 1), .int r])) p l ns (k + 1) r := hP.but But.put upd_same (by have := hP.k0; omega)
    have b1 : But p H (upd H p (.lst [.ref l, .int (k + 1), .int r])) := But.put
    show tSeq _ _ _ _ (upd H p (.lst [.ref l, .int (k + 1), .int r]))
    generalize upd H p (.lst [.ref l, .int (k + 1), .int r]) = H1 at hP1 b1 ⊢
    refine st_seq (st_set (val_op (val_op val_c (val_var rfl) fun Q q => ⟨_, _, rfl, rfl, .inl (by decide), q⟩) val_c fun Q q => ⟨_, _, rfl, rfl, q⟩) ?_)
    refine ⟨fun σ H' => ∃ c : Int, σ = [some (V.ref p), some (V.int many), none, some (V.int k), some (V.int c), none, none] ∧ But p H H' ∧ PenAt H' p l ns (k + 1) r, ?_, ?_⟩
    · refine ix hP1.pen rfl rfl _ ?_
      refine ⟨(by show 0 ≤ sizeLine; decide), fun z hz => ?_⟩
      have b2 : But p H (upd H1 z (.lst [])) := b1.trans (But.new hz)
      have nzp : p ≠ z := ne_of_none hP1.pen hz
      have hP2 : PenAt (upd H1 z (.lst [])) p l ns (k + 1) r := hP1.but (But.new hz) (by rw [upd_ne nzp]; exact hP1.pen) hP1.k0
      refine ⟨_, _, .lst (SqL.of hP2.lst) (dpInts ns), .lst (SqL.of upd_same) .nil, shInts, by decide, _, rfl, ?_⟩
      cases ns with
      | nil =>
        refine iteF ?_
        exact ⟨_, rfl, b2, hP2⟩
      | cons n0 nr =>
        refine iteT ?_
        have hpos : (0 : Int) < (((n0 :: nr).map V.int).length : Int) := by rw [List.length_map, List.length_cons]; omega
        obtain ⟨j, hj, e⟩ : ∃ j : Nat, j < (n0 :: nr).length ∧ k.fmod (((n0 :: nr).map V.int).length : Int) = (j : Int) := by
          refine ⟨(k.fmod (((n0 :: nr).map V.int).length : Int)).toNat, ?_, ?_⟩
          · rw [Int.fmod_eq_emod_of_nonneg _ (Int.le_of_lt hpos)]
            have h1 := Int.emod_lt_of_pos k hpos
            have h2 := Int.emod_nonneg k (Int.ne_of_gt hpos)
            rw [List.length_map] at h1 h2 ⊢
            omega
          · rw [Int.fmod_eq_emod_of_nonneg _ (Int.le_of_lt hpos)]
            have h2 := Int.emod_nonneg k (Int.ne_of_gt hpos)
            omega
        refine st_set (val_op (ix hP2.pen rfl rfl) (val_op (int1 (val_var rfl)) (fun Q q => ix hP2.pen rfl rfl _ ⟨l, _, rfl, .inl (SqL.of hP2.lst), q⟩) fun Q q => ⟨_, _, rfl, rfl, Int.ne_of_gt hpos, q⟩) fun Q q => ⟨l, _, _, _, rfl, rfl, SqL.of hP2.lst, by rw [e]; exact atI_nat (by rw [List.getElem?_map, List.getElem?_eq_getElem hj]; rfl), q⟩) ?_
        exact ⟨_, rfl, b2, hP2⟩
    · rintro σ H' ⟨c, rfl, b2, hP2⟩
      have hk0 := hP.k0
      have hA : Ans (tTest (tOp (rI0 fun i j => V.bl (decide (i < j))) (tVar 3) (tCB (fun xs H Q => ∃ p ys, xs = [V.ref p] ∧ (SqL K H p ys ∨ SqT K H p ys) ∧ Q (V.int ↑ys.length) H) (tCons (tOp (rIxL K) (tVar 0) (tC (.int 0))) tNil))))
          [some (V.ref p), some (V.int many), none, some (V.int k), some (V.int c), none, none] H' (decide (k < ((ns.map V.int).length : Int))) :=
        ans_cmp (val_var rfl) (fun Q q => ix hP2.pen rfl rfl _ ⟨l, _, rfl, .inl (SqL.of hP2.lst), q⟩) fun Q q => ⟨_, _, rfl, rfl, q⟩
      have hB : Ans (tTest (tOp (rI0 fun i j => V.bl (decide (j ≤ i))) (tCB (fun xs H Q => ∃ i, xs = [V.int i] ∧ Q (V.int (if i < 0 then -i else i)) H) (tCons (tVar 4) tNil)) (tOp (rI CPow fun i j => V.int (i ^ j.toNat)) (tC (V.int 10)) (tC (V.int 18)))))
          [some (V.ref p), some (V.int many), none, some (V.int k), some (V.int c), none, none] H' (decide ((10 : Int) ^ (18 : Int).toNat ≤ if c < 0 then -c else c)) :=
        ans_cmp (fun Q q => val_var rfl _ ⟨c, rfl, q⟩) (val_op val_c val_c fun Q q => ⟨_, _, rfl, rfl, ⟨by decide, by decide, by decide⟩, q⟩) fun Q q => ⟨_, _, rfl, rfl, q⟩
      refine st_seq ?_
      cases e : (decide (k < ((ns.map V.int).length : Int)) && decide ((10 : Int) ^ (18 : Int).toNat ≤ if c < 0 then -c else c)) with
      | true =>
        refine st_yes ((ans_and2 hA hB).to e) ?_
        refine st_seq (st_set (val_op (val_op val_c (fun Q q => val_var rfl _ ⟨c, rfl, q⟩) fun Q q => ⟨_, _, rfl, rfl, .inl (by decide), q⟩) (fun Q q => val_op (val_var rfl) val_c (fun Q q => ⟨_, _, rfl, rfl, q⟩) _ (.inr ⟨_, rfl, q⟩)) fun Q q => ⟨_, _, rfl, rfl, q⟩) ?_)
        refine st_seq ?_
        refine val_op (val_var rfl) (val_var rfl) (fun Q q => ⟨_, _, rfl, rfl, wide_div hm0 (b := 200) (by omega) (by decide) (by decide), q⟩) _ ?_
        refine ⟨_, rfl, _, _, _, _, rfl, rfl, hP2.pen, rfl, ?_⟩
        refine st_ret (val_op (int1 (val_var rfl)) (val_var rfl) fun Q q => ⟨_, _, rfl, rfl, by omega, q⟩) ?_
        exact q _ _ _ _ (fm0 hm0) (fm1 hm0) (Int.le_refl _) (b2.trans But.put) (hP2.but But.put upd_same hP2.k0)
      | false =>
        refine st_no ((ans_and2 hA hB).to e) ?_
        have f0 := fm0 (i := c) (j := 2147483549) (by decide)
        have f1 := fm1 (i := c) (j := 2147483549) (by decide)
        refine st_seq (st_set (val_op (int1 (val_op (val_op (val_op (val_op (int1 (val_var rfl)) val_c fun Q q => ⟨_, _, rfl, rfl, by show (2147483549 : Int) ≠ 0; decide, q⟩) (val_op val_c (val_var rfl) fun Q q => ⟨_, _, rfl, rfl, .inl (by decide), q⟩) fun Q q => ⟨_, _, rfl, rfl, q⟩) val_c fun Q q => ⟨_, _, rfl, rfl, q⟩) val_c
          fun Q q => ⟨_, _, rfl, rfl, ⟨by decide, by decide, by omega⟩, q⟩)) val_c fun Q q => ⟨_, _, rfl, rfl, by show (2147483629 : Int) ≠ 0; decide, q⟩) ?_)
        have g0 := fm0 (i := (c.fmod 2147483549 + 40037 * k + 41) ^ (5 : Int).toNat) (j := 2147483629) (by decide)
        have g1 := fm1 (i := (c.fmod 2147483549 + 40037 * k + 41) ^ (5 : Int).toNat) (j := 2147483629) (by decide)
        show tSeq _ _ _ [some (V.ref p), some (V.int many), none, some (V.int k), some (V.int c), none, some (V.int (((c.fmod 2147483549 + 40037 * k + 41) ^ (5 : Int).toNat).fmod 2147483629))] H'
        generalize ((c.fmod 2147483549 + 40037 * k + 41) ^ (5 : Int).toNat).fmod 2147483629 = m at g0 g1 ⊢
        have p0 : 0 ≤ m * (2 * k + 23) := Int.mul_nonneg g0 (by omega)
        have p1 : m * (2 * k + 23) ≤ 2147483629 * 20023 := Int.mul_le_mul (by omega) (by omega) (by omega) (by decide)
        have p2 : 0 ≤ 50047 * k * k := Int.mul_nonneg (by omega) hk0
        have p3 : 50047 * k * k ≤ 50047 * 10000 * 10000 := Int.mul_le_mul (by omega) hk hk0 (by decide)
        refine st_seq (st_set (val_op (int1 (val_op (val_op (val_op (val_op (val_var rfl) (val_op (val_op val_c (val_var rfl) fun Q q => ⟨_, _, rfl, rfl, .inl (by decide), q⟩) val_c fun Q q => ⟨_, _, rfl, rfl, q⟩) fun Q q => ⟨_, _, rfl, rfl, .inl (by omega), q⟩)
          (val_op (val_op val_c (val_var rfl) fun Q q => ⟨_, _, rfl, rfl, .inl (by decide), q⟩) (val_var rfl) fun Q q => ⟨_, _, rfl, rfl, .inl (by omega), q⟩) fun Q q => ⟨_, _, rfl, rfl, q⟩) val_c fun Q q => ⟨_, _, rfl, rfl, q⟩) val_c
          fun Q q => ⟨_, _, rfl, rfl, ⟨by decide, by decide, by omega⟩, q⟩)) val_c fun Q q => ⟨_, _, rfl, rfl, by show (2147483587 : Int) ≠ 0; decide, q⟩) ?_)
        refine st_ret (val_op (int1 (val_op (val_var rfl) val_c fun Q q => ⟨_, _, rfl, rfl, ⟨by decide, by decide⟩, q⟩)) (val_var rfl) fun Q q => ⟨_, _, rfl, rfl, by omega, q⟩) ?_
        exact q _ _ _ _ (fm0 hm0) (fm1 hm0) (Int.le_refl _) b2 hP2
end
end B3
set_option maxRecDepth 100000
set_option maxHeartbeats 4000000
set_option exponentiation.threshold 10000
namespace B3
open PySem PySem.Spec PyProof.Rows L2 RX LP SX TX
abbrev sDivisor : Stmt := top 14
abbrev sParts : Stmt := top 15
abbrev sText : Stmt := top 16
theorem PenAt.new {H : Hp} {p l z : Addr} {ns : List Int} {k r : Int} {o : HO} (P : PenAt H p l ns k r) (hz : H z = none) : PenAt (upd H z o) p l ns k r := P.but (But.new hz) (by rw [upd_ne (ne_of_none P.pen hz)]; exact P.pen) P.k0
theorem But.grow {p : Addr} {H H' : Hp} (g : Grow H H') : But p H H' := fun b o _ e => g b o e
theorem PenAt.grow {H H' : Hp} {p l : Addr} {ns : List Int} {k r : Int} (P : PenAt H p l ns k r) (g : Grow H H') : PenAt H' p l ns k r := ⟨g _ _ P.pen, g _ _ P.lst, P.ne, P.len, P.k0⟩
/-- what a def that draws hands back -/
def Drawn (p l : Addr) (ns : List Int) (k : Int) (n : Int) (H : Hp) (R : V → Hp → Prop) (Q : VK) : Prop := ∀ v k' r' H', k' ≤ k + n → But p H H' → PenAt H' p l ns k' r' → R v H' → Q v H'
def spDivisor : Sp := fun vs H Q _ => ∃ a b : Int, vs = [.int a, .int b] ∧ Q (.int ((Nat.gcd a.natAbs b.natAbs : Nat) : Int)) H
/-- numbers that the law draws, in lowest terms -/
structure Lw (t b : Int) : Prop where
  pos : 0 < b
  cop : Nat.gcd t.natAbs b.natAbs = 1
  bt : t.natAbs ≤ 1000000
  bb : b.natAbs ≤ 1000
def spParts : Sp := fun vs H Q _ => ∃ p l ns k r, vs = [.ref p] ∧ PenAt H p l ns k r ∧ k ≤ 9000 ∧ Drawn p l ns k 6 H (fun v H' => ∃ a t b, v = .ref a ∧ a ≠ p ∧ H' a = some (.tup [.int t, .int b]) ∧ Lw t b) Q
def spText : Sp := fun vs H Q _ => ∃ t b : Int, vs = [.int t, .int b] ∧ t.natAbs < 2 ^ 1900 ∧ b.natAbs < 2 ^ 1900 ∧ Q (.str (S (ratL t b))) H
section
variable {P : Program} {w : World} {K : PySem.W.Frag} {mg : Str → Option Value} {base : Heap} {f fD : Addr} {fd fdD : FuncData}
abbrev psD : List Str := ["_law_pen_here", "_law_many"]
abbrev psG : List Str := ["_law_one", "_law_other"]
theorem scDivisor : FnScope ["_law_one", "_law_other", "_law_here", "_law_there"] psG (defScope sDivisor) := ⟨rfl, rfl, rfl, by decide +kernel, rfl, by decide +kernel, by decide +kernel⟩
theorem abs_nat (a : Int) : (if a < 0 then -a else a) = ((a.natAbs : Nat) : Int) := by split <;> omega
theorem ok_divisor (F : Fun K "_law_divisor" "_law_divisor" sDivisor f fd) (B : Bl mg) : FnOk P w K mg base CX0 1 f fd psG spDivisor := by
  refine F.ok scDivisor (fun vs H Q E h => ?_) (fun cdv A outer s H vs Q E hr h => ?_)
  · obtain ⟨a, b, rfl, _⟩ := h
    rfl
  · obtain ⟨a, b, rfl, q⟩ := h
    have nd := scDivisor.nd
    refine ⟨_, pss_cons (ps_par (i := 2) (j := 3) (by rfl) nd rfl rfl (by decide) rfl rfl (pa_cons (pe_callB call_abs (by rfl) B.abs (by decide +kernel) (pa_cons (pv 0) pa_nil)) (pa_cons (pe_callB call_abs (by rfl) B.abs (by decide +kernel) (pa_cons (pv 1) pa_nil)) pa_nil)) (by rfl))
      (pss_cons (ps_while PassesOwn.never (pt_cmpR op_ne (pv 3) pe_int (nomark _))
        (pss_one (ps_par (i := 2) (j := 3) (by rfl) nd rfl rfl (by decide) rfl rfl (pa_cons (pv 3) (pa_cons (pe_op op_modN (pe_callTy call_int1 (by rfl) B.int (by decide +kernel) (pa_cons (pv 2) pa_nil)) (pv 3)) pa_nil)) (by rfl))))
      (pss_one (ps_ret (pv 2)))), ?_⟩
    refine ⟨_, rfl, _, rfl, _, rfl, _, rfl, _, _, rfl, ?_⟩
    rw [abs_nat, abs_nat]
    refine while_by (fun σ H' => ∃ x y : Nat, σ = [some (V.int a), some (V.int b), some (V.int (x : Int)), some (V.int (y : Int))] ∧ H' = H ∧ Nat.gcd x y = Nat.gcd a.natAbs b.natAbs) (fun (σ : L2.St) _ => match σ[3]? with | some (some (V.int y)) => y.toNat | _ => 0) ⟨_, _, rfl, rfl, rfl⟩ ?_ ?_
    · rintro σ H' ⟨x, y, rfl, rfl, e⟩
      by_cases hy : y = 0
      · refine ans_ne (b := false) (val_var rfl) val_c rfl (by rw [hy]; rfl) _ (iteF ?_)
        refine st_ret (val_var rfl) ?_
        rw [hy, Nat.gcd_zero_right] at e
        rw [e]
        exact q
      · refine ans_ne (b := true) (val_var rfl) val_c rfl (by rw [decide_eq_false (fun z => hy (by have := V.int.inj z; omega))]; rfl) _ (iteT ?_)
        refine ⟨_, rfl, _, rfl, .inl ⟨_, rfl, _, rfl, _, _, rfl, rfl, (by omega), _, _, rfl, ?_⟩⟩
        have em : ((x : Int).fmod (y : Int)) = ((x % y : Nat) : Int) := by
          rw [Int.fmod_eq_emod_of_nonneg _ (by omega)]
          rfl
        refine ⟨⟨y, x % y, congrArg (fun z => [some (V.int a), some (V.int b), some (V.int (y : Int)), some (V.int z)]) em, rfl, ?_⟩, ?_⟩
        · rw [← e, Nat.gcd_comm x y, Nat.gcd_rec y x, Nat.gcd_comm]
        · show (((x : Int).fmod (y : Int))).toNat < ((y : Int)).toNat
          rw [em]
          have := Nat.mod_lt x (Nat.pos_of_ne_zero hy)
          omega
    · intro σ H' Q Q' hq h
      obtain ⟨v, e, s, k, ek, r⟩ := h
      exact ⟨v, e, s, k, ek, hq _ _ r⟩
theorem scParts : FnScope ["_law_pen_here", "_law_top", "_law_bottom", "_law_common"] ["_law_pen_here"] (defScope sParts) := ⟨rfl, rfl, rfl, by decide +kernel, rfl, by decide +kernel, by decide +kernel⟩
theorem scText : FnScope ["_law_top", "_law_bottom"] ["_law_top", "_law_bottom"] (defScope sText) := ⟨rfl, rfl, rfl, by decide +kernel, rfl, by decide +kernel, by decide +kernel⟩
theorem cases3 {d : Int} (h0 : 0 ≤ d) (h3 : d < 3) : d = 0 ∨ d = 1 ∨ d = 2 := by omega
theorem ok_parts {fG : Addr} {fdG : FuncData} (F : Fun K "_law_parts" "_law_parts" sParts f fd) (GD : FnOk P w K mg base CX0 1 fD fdD psD spDraw) (DD : At K mg "_law_draw" fD fdD psD) (GG : FnOk P w K mg base CX0 1 fG fdG psG spDivisor) (DG : At K mg "_law_divisor" fG fdG psG) :
    FnOk P w K mg base CX0 2 f fd ["_law_pen_here"] spParts := by
  refine F.ok scParts (fun vs H Q E h => ?_) (fun cdv A outer s H vs Q E hr h => ?_)
  · obtain ⟨p, l, ns, k, r, rfl, _⟩ := h
    rfl
  · obtain ⟨p, l, ns, k, r, rfl, hP, hk, q⟩ := h
    have nd := scParts.nd
    refine ⟨_, pss_cons (ps_set (i := 1) nd rfl (Or.inl rfl) (pe_ix (r := rIxL K) ix_list (pe_lst (pa_cons (pe_op op_sub (pe_call GD (hr.mono (by decide)) (by rfl) DD.mg DD.kp DD.b .nil pass0 (pa_cons (pv 0) (pa_cons pe_int pa_nil))) pe_int)
        (pa_cons (pe_op op_sub (pe_call GD (hr.mono (by decide)) (by rfl) DD.mg DD.kp DD.b .nil pass0 (pa_cons (pv 0) (pa_cons pe_int pa_nil))) pe_int)
        (pa_cons pe_int pa_nil)))) (pe_call GD (hr.mono (by decide)) (by rfl) DD.mg DD.kp DD.b .nil pass0 (pa_cons (pv 0) (pa_cons pe_int pa_nil))) (fun _ _ => rfl)))
      (pss_cons (ps_set (i := 2) nd rfl (Or.inl rfl) (pe_ix (r := rIxL K) ix_list (pe_lst (pa_cons pe_int (pa_cons (pe_op op_add pe_int (pe_call GD (hr.mono (by decide)) (by rfl) DD.mg DD.kp DD.b .nil pass0 (pa_cons (pv 0) (pa_cons pe_int pa_nil))))
        (pa_cons (pe_op op_add pe_int (pe_call GD (hr.mono (by decide)) (by rfl) DD.mg DD.kp DD.b .nil pass0 (pa_cons (pv 0) (pa_cons pe_int pa_nil)))) pa_nil))))
        (pe_call GD (hr.mono (by decide)) (by rfl) DD.mg DD.kp DD.b .nil pass0 (pa_cons (pv 0) (pa_cons pe_int pa_nil))) (fun _ _ => rfl)))
      (pss_cons (ps_set (i := 3) nd rfl (Or.inl rfl) (pe_call GG (hr.mono (by decide)) (by rfl) DG.mg DG.kp DG.b .nil pass0 (pa_cons (pv 1) (pa_cons (pv 2) pa_nil))))
      (pss_one (ps_ret (pe_tup (pa_cons (pe_op op_fdivX (pv 1) (pv 3)) (pa_cons (pe_op op_fdivX (pv 2) (pv 3)) pa_nil))))))), ?_⟩
    have fin : ∀ (u d : Int) (k' r' : Int) (H' : Hp), u.natAbs ≤ 1000000 → 0 < d → d.natAbs ≤ 1000 → k' ≤ k + 6 → But p H H' → PenAt H' p l ns k' r' →
        tSeq (tAsg (tCall spDivisor [] E0 (tCons (tVar 1) (tCons (tVar 2) tNil))) (gName 3)) (tRet (tTup (tCons (tOp (rI CDivX fun i j => V.int (i.fdiv j)) (tVar 1) (tVar 3)) (tCons (tOp (rI CDivX fun i j => V.int (i.fdiv j)) (tVar 2) (tVar 3)) tNil)))) { nx := fun _ H' => Q .non H', rt := Q } [some (V.ref p), some (V.int u), some (V.int d), none] H' := by
      intro u d k' r' H' bu d0 bd bk B P
      have dne : d ≠ 0 := by omega
      have eg : ((Nat.gcd u.natAbs d.natAbs : Nat) : Int) = gc u d := by
        unfold gc
        rw [if_neg (by omega)]
      have cd : ∀ x : Int, CDivX x (gc u d) := fun x => div_x (gc_ne dne) (b := 4000) (gc_le dne (Nat.lt_of_le_of_lt bd (by decide))) (by decide) (by decide)
      refine ⟨_, rfl, _, rfl, u, d, rfl, ?_⟩
      rw [eg]
      refine ⟨_, rfl, _, rfl, _, _, rfl, rfl, cd u, _, rfl, _, rfl, _, _, rfl, rfl, cd d, (by show 2 ≤ sizeLine; decide), fun z hz => ?_⟩
      have nz : z ≠ p := (ne_of_none P.pen hz).symm
      refine q _ _ _ _ bk (B.trans (But.new hz)) (P.new hz) ⟨z, tp u d, bt u d, rfl, nz, upd_same, bt_pos dne, low_cop dne, Nat.le_trans (tp_le u d) bu, Nat.le_trans (bt_le u d) bd⟩
    have step2 : ∀ (u : Int) (k' r' : Int) (H' : Hp), u.natAbs ≤ 1000000 → k' ≤ k + 3 → But p H H' → PenAt H' p l ns k' r' →
        tSeq (tAsg (tOp (rIxL K) (tLst (tCons (tC (.int 1)) (tCons (tOp (rI0 fun i j => V.int (i + j)) (tC (.int 1)) (tCall spDraw [] E0 (tCons (tVar 0) (tCons (tC (.int 12)) tNil)))) (tCons (tOp (rI0 fun i j => V.int (i + j)) (tC (.int 1)) (tCall spDraw [] E0 (tCons (tVar 0) (tCons (tC (.int 1000)) tNil)))) tNil)))) (tCall spDraw [] E0 (tCons (tVar 0) (tCons (tC (.int 3)) tNil)))) (gName 2))
        (tSeq (tAsg (tCall spDivisor [] E0 (tCons (tVar 1) (tCons (tVar 2) tNil))) (gName 3)) (tRet (tTup (tCons (tOp (rI CDivX fun i j => V.int (i.fdiv j)) (tVar 1) (tVar 3)) (tCons (tOp (rI CDivX fun i j => V.int (i.fdiv j)) (tVar 2) (tVar 3)) tNil))))) { nx := fun _ H' => Q .non H', rt := Q } [some (V.ref p), some (V.int u), none, none] H' := by
      intro u k1 r1 H1 bu bk B P
      refine ⟨_, rfl, p, l, ns, k1, r1, 12, rfl, P, by omega, by decide, by decide, fun d1 k2 r2 H2 a0 a1 ak B2 P2 => ?_⟩
      refine ⟨_, _, rfl, rfl, ?_⟩
      refine ⟨_, rfl, p, l, ns, k2, r2, 1000, rfl, P2, by omega, by decide, by decide, fun d2 k3 r3 H3 b0 b1 bk3 B3 P3 => ?_⟩
      refine ⟨_, _, rfl, rfl, (by show 3 ≤ sizeLine; decide), fun z hz => ?_⟩
      refine ⟨_, rfl, p, l, ns, k3, r3, 3, rfl, P3.new hz, by omega, by decide, by decide, fun d4 k4 r4 H4 e0 e1 ek B4 P4 => ?_⟩
      have nz : z ≠ p := (ne_of_none P3.pen hz).symm
      have BB : But p H H4 := ((B.trans B2).trans B3).trans ((But.new hz).trans B4)
      rcases cases3 e0 e1 with rfl | rfl | rfl
      · exact ⟨z, _, 0, _, rfl, rfl, SqL.of (B4 z _ nz upd_same), rfl, fin u 1 k4 r4 H4 bu (by decide) (by decide) (by omega) BB P4⟩
      · exact ⟨z, _, 1, _, rfl, rfl, SqL.of (B4 z _ nz upd_same), rfl, fin u (1 + d1) k4 r4 H4 bu (by omega) (by omega) (by omega) BB P4⟩
      · exact ⟨z, _, 2, _, rfl, rfl, SqL.of (B4 z _ nz upd_same), rfl, fin u (1 + d2) k4 r4 H4 bu (by omega) (by omega) (by omega) BB P4⟩
    refine ⟨_, rfl, p, l, ns, k, r, 9, rfl, hP, by omega, by decide, by decide, fun d1 k1 r1 H1 a0 a1 ak B1 P1 => ?_⟩
    refine ⟨_, _, rfl, rfl, _, rfl, p, l, ns, k1, r1, 1999999, rfl, P1, by omega, by decide, by decide, fun d2 k2 r2 H2 b0 b1 bk B2 P2 => ?_⟩
    refine ⟨_, _, rfl, rfl, (by show 3 ≤ sizeLine; decide), fun z hz => ?_⟩
    refine ⟨_, rfl, p, l, ns, k2, r2, 3, rfl, P2.new hz, by omega, by decide, by decide, fun d4 k4 r4 H4 e0 e1 ek B4 P4 => ?_⟩
    have nz : z ≠ p := (ne_of_none P2.pen hz).symm
    have BB : But p H H4 := (B1.trans B2).trans ((But.new hz).trans B4)
    rcases cases3 e0 e1 with rfl | rfl | rfl
    · exact ⟨z, _, 0, _, rfl, rfl, SqL.of (B4 z _ nz upd_same), rfl, step2 _ k4 r4 H4 (by omega) (by omega) BB P4⟩
    · exact ⟨z, _, 1, _, rfl, rfl, SqL.of (B4 z _ nz upd_same), rfl, step2 _ k4 r4 H4 (by omega) (by omega) BB P4⟩
    · exact ⟨z, _, 2, _, rfl, rfl, SqL.of (B4 z _ nz upd_same), rfl, step2 _ k4 r4 H4 (by decide) (by omega) BB P4⟩
theorem ok_text (F : Fun K "_law_text" "_law_text" sText f fd) (B : Bl mg) : FnOk P w K mg base CX0 1 f fd ["_law_top", "_law_bottom"] spText := by
  refine F.ok scText (fun vs H Q E h => ?_) (fun cdv A outer s H vs Q E hr h => ?_)
  · obtain ⟨t, b, rfl, _⟩ := h
    rfl
  · obtain ⟨t, b, rfl, s1, s2, q⟩ := h
    refine ⟨_, pss_one (ps_ret (pe_ifExp (pt_cmpR op_eq (pv 1) pe_int (nomark _)) (pe_callTy call_str_int (by rfl) B.str (by decide +kernel) (pa_cons (pv 0) pa_nil))
      (pe_op op_add_str (pe_op op_add_str (pe_callTy call_str_int (by rfl) B.str (by decide +kernel) (pa_cons (pv 0) pa_nil)) pe_str) (pe_callTy call_str_int (by rfl) B.str (by decide +kernel) (pa_cons (pv 1) pa_nil))))), ?_⟩
    show tRet _ _ [some (V.int t), some (V.int b)] H
    unfold ratL at q
    have l1 := intL_len s1
    have l2 := intL_len s2
    have big : 10000 ≤ sizeLine := by decide
    by_cases hb : b = 1
    · rw [if_pos hb] at q
      refine ans_eq (b := true) (val_var rfl) val_c rfl (by rw [hb]; rfl) _ (iteT ?_)
      refine ⟨_, rfl, t, rfl, log_of s1, ?_⟩
      show Q (.str (Str.ofString (toString t))) H
      rw [int_txt]
      exact q
    · rw [if_neg hb] at q
      refine ans_eq (b := false) (val_var rfl) val_c rfl (decide_eq_false fun e => hb (by cases e; rfl)) _ (iteF ?_)
      have e1 : S (intL t) ++ Str.ofString "/" = S (intL t ++ [47]) := S_cat (intL t) [47]
      have e2 : S (intL t ++ [47]) ++ S (intL b) = S (intL t ++ 47 :: intL b) := by
        rw [S_cat, List.append_assoc]
        rfl
      refine ⟨_, rfl, t, rfl, log_of s1, _, _, rfl, rfl, ?_, ?_⟩
      · rw [int_txt, S_len]
        show _ + 1 ≤ _
        omega
      rw [int_txt, e1]
      refine ⟨_, rfl, b, rfl, log_of s2, _, _, rfl, rfl, ?_, ?_⟩
      · rw [int_txt, S_len, S_len, List.length_append]
        show _ + 1 + _ ≤ _
        omega
      rw [int_txt, e2]
      exact q
end
end B3
set_option maxRecDepth 100000
set_option maxHeartbeats 4000000
set_option exponentiation.threshold 10000
namespace TX
open PySem PySem.NumText RX SX
structure Ok (n : Nat) (l : List Nat) : Prop where
  len : l.length ≤ n
  cps : ∀ c ∈ l, c < 128
theorem Ok.mono {n m : Nat} {l : List Nat} (h : Ok n l) (k : n ≤ m) : Ok m l := ⟨Nat.le_trans h.len k, h.cps⟩
def oddL (w : List Nat) : List Nat := w.filter fun c => !isD c
theorem odd_nil {w : List Nat} : oddL w = [] ↔ allD w = true := by
  unfold oddL allD
  rw [List.filter_eq_nil_iff, List.all_eq_true]
  constructor
  · intro h c hc
    have := h c hc
    cases e : isD c with
    | true => rfl
    | false => rw [e] at this; exact absurd rfl this
  · intro h c hc
    rw [h c hc]
    decide
end TX
namespace B3
open PySem PySem.Spec PyProof.Rows L2 RX LP SX TX
abbrev sWhole : Stmt := top 17
theorem dpStrs {K : PySem.W.Frag} {H : Hp} : ∀ l : List Nat, DpAll K H (l.map fun c => V.str ⟨#[c]⟩) (l.map fun c => PyData.str ⟨#[c]⟩)
  | [] => .nil
  | c :: r => .cons (.str _) (dpStrs r)
theorem canStrs : ∀ l : List Nat, (∀ c ∈ l, c < 128) → PyData.canLayAll0 (l.map fun c => PyData.str ⟨#[c]⟩) = true
  | [], _ => rfl
  | c :: r, h => by
    show (PyData.strOk ⟨#[c]⟩ && PyData.canLayAll0 (r.map fun c => PyData.str ⟨#[c]⟩)) = true
    rw [canStrs r fun x hx => h x (List.mem_cons_of_mem _ hx), Bool.and_true]
    have hc := h c List.mem_cons_self
    show (#[c] : Array Nat).all (· < 0x110000) = true
    rw [← Array.all_toList]
    show (decide (c < 0x110000) && true) = true
    rw [decide_eq_true (by omega)]
    rfl
theorem depStrs : ∀ l : List Nat, PyData.depthAll (l.map fun c => PyData.str ⟨#[c]⟩) = 0
  | [] => rfl
  | c :: r => by
    show max (PyData.depth (PyData.str ⟨#[c]⟩)) (PyData.depthAll (r.map fun c => PyData.str ⟨#[c]⟩)) = 0
    rw [depStrs r]
    rfl
theorem shStrs {l : List Nat} (h : ∀ c ∈ l, c < 128) : SeqAt.shaped (PyData.list (l.map fun c => PyData.str ⟨#[c]⟩)) = true := by
  unfold SeqAt.shaped
  rw [show PyData.canLay0 (PyData.list (l.map fun c => PyData.str ⟨#[c]⟩)) = true from canStrs l h]
  refine decide_eq_true ?_
  show PyData.depthAll (l.map fun c => PyData.str ⟨#[c]⟩) + 1 ≤ 64
  rw [depStrs l]
  decide
def spWhole : Sp := fun vs H Q _ => ∃ wd : List Nat, vs = [.str (S wd)] ∧ Ok 50000 wd ∧ ∀ H', Grow H H' → Q (.bl (whole wd)) H'
section
variable {P : Program} {w : World} {K : PySem.W.Frag} {mg : Str → Option Value} {base : Heap} {f : Addr} {fd : FuncData}
theorem scWhole : FnScope ["_law_word", "_law_sign"] ["_law_word"] (defScope sWhole) := ⟨rfl, rfl, rfl, by decide +kernel, rfl, by decide +kernel, by decide +kernel⟩
theorem ok_whole (F : Fun K "_law_whole" "_law_whole" sWhole f fd) (B : Bl mg) : FnOk P w K mg base CX0 1 f fd ["_law_word"] spWhole := by
  refine F.ok scWhole (fun vs H Q E h => ?_) (fun cdv A outer s H vs Q E hr h => ?_)
  · obtain ⟨x, rfl, _⟩ := h
    rfl
  · obtain ⟨wd, rfl, ⟨hl, hc⟩, q⟩ := h
    have nd := scWhole.nd
    refine ⟨_, pss_cons (ps_if (PW.pt (pw_or (pt_cmpR op_eq (pv 0) pe_str (nomark _)) (pw_or (pt_cmpR op_gt (pe_callB call_len_str (by rfl) B.len PySem.boot_len (pa_cons (pv 0) pa_nil)) pe_int (nomark _))
        (pw_or1 (pt_cmpR (op_neD hr.units) (pe_lc (own := [("_law_sign", 1)]) (g := gName 1) (by rfl) nd (pi_str (pv 0)) (blkOk_by (own := [("_law_sign", 1)]) (N := ["_law_word", "_law_sign"]) (sc := defScope sWhole) (by decide +kernel)) (fun _ _ _ _ _ => pg_name (i := 1) nd rfl (Or.inl rfl))
          (fun _ _ _ _ _ => pts_one (pt_cmpR op_notIn_sign (pv 1) pe_str rfl)) (fun _ _ _ _ _ => pv 1)) (pe_lst pa_nil) (nomark _))))))
        (pss_one (ps_ret pe_bl)) pss_nil)
      (pss_one (ps_ret (pe_or (pe_cmpR op_eq (pv 0) pe_str (nomark _)) (pe_one (pe_cmpR op_ne (pe_ix (r := rIxS) ix_str (pv 0) pe_int (fun _ _ => rfl)) pe_str (nomark _)))))), ?_⟩
    show tSeq _ _ _ [some (V.str (S wd)), none] H
    have hz : (S wd).length ≤ sizeLine := by rw [S_len]; exact Nat.le_trans hl (by decide)
    have dS : ∀ a b : List Nat, decide (V.str (S a) = V.str (S b)) = decide (a = b) := fun a b => dec_S
    have c1 : EvB (tTest (tOp rEq (tVar 0) (tC (.str (Str.ofString ""))))) [some (V.str (S wd)), none] H (decide (wd = [])) := fun H1 g Q q =>
      ans_eq (val_var rfl) val_c rfl (dS wd []) _ (q H1 grow_rfl)
    have c2 : EvB (tTest (tOp rGt (tCB (fun xs H Q => ∃ z, xs = [V.str z] ∧ z.length ≤ sizeLine ∧ Q (V.int (z.length : Int)) H) (tCons (tVar 0) tNil)) (tC (.int 60)))) [some (V.str (S wd)), none] H (decide (60 < wd.length)) := fun H1 g Q q =>
      ans_gt (fun Q q => ⟨_, rfl, _, rfl, hz, q⟩) (by rw [S_len]; exact decide_eq_decide.mpr ⟨fun h => by omega, fun h => by omega⟩) _ (q H1 grow_rfl)
    by_cases h1 : wd = []
    · refine sq_yes (evb_or1 (c1.to (decide_eq_true h1))) fun H2 g2 => ?_
      have e : whole wd = false := by
        unfold whole
        rw [decide_eq_true h1]
        rfl
      rw [← e]
      exact q H2 g2
    · by_cases h2 : 60 < wd.length
      · refine sq_yes (evb_or (c1.to (decide_eq_false h1)) (evb_or1 (c2.to (decide_eq_true h2)))) fun H2 g2 => ?_
        have e : whole wd = false := by
          unfold whole
          rw [decide_eq_true h2, Bool.or_true, Bool.true_or]
          rfl
        rw [← e]
        exact q H2 g2
      · have c3 : EvB (tTest (tOp (rNeD K) (tLc (iStr (tVar 0)) (gName 1) (tTest (tOp (fun x y H Q => ∃ c z, x = V.str ⟨#[c]⟩ ∧ y = V.str z ∧ Q (V.bl (!decide (c ∈ z.cps.toList))) H) (tVar 1) (tC (.str (Str.ofString "0123456789"))))) (tVar 1) [1]) (tLst tNil))) [some (V.str (S wd)), none] H (!allD wd) := by
          intro H1 g Q q
          refine ⟨_, rfl, _, rfl, fun D hD => ?_⟩
          refine lc_it (walk_str (z := S wd)) (fun k H' => Grow H1 H' ∧ H' D = some (.lst ((oddL (wd.take k)).map fun c => V.str ⟨#[c]⟩))) ⟨grow_new hD, upd_same⟩ (fun _ _ _ _ => trivial) (fun i x H2 H3 hi pv y => ?_) (fun H2 pv => ?_)
          · obtain ⟨rfl, c, hc0, rfl⟩ := y
            obtain ⟨g2, hd⟩ := pv
            have hc' : wd[i]? = some c := by
              have : (S wd).cps[i]? = wd[i]? := by simp [S]
              rw [← this]; exact hc0
            refine ⟨rfl, _, rfl, _, _, rfl, rfl, _, rfl, ?_⟩
            have em : decide (c ∈ (Str.ofString "0123456789").cps.toList) = isD c := mem_digits c
            rw [em]
            have et : oddL (wd.take (i + 1)) = oddL (wd.take i) ++ (if isD c then [] else [c]) := by
              unfold oddL
              rw [List.take_add_one, hc', List.filter_append]
              cases h : isD c <;> simp [h]
            cases ei : isD c with
            | true =>
              refine iteF ⟨g2, ?_⟩
              rw [et, ei, hd]
              simp
            | false =>
              refine iteT (B := Grow H1 H3 ∧ H3 D = some (.lst ((oddL (wd.take (i + 1))).map fun c => V.str ⟨#[c]⟩))) ⟨_, rfl, _, hd, ?_, ?_, ?_⟩
              · rw [List.length_map]
                have : (oddL (wd.take i)).length ≤ (wd.take i).length := List.length_filter_le _ _
                rw [List.length_take] at this
                have : 50000 < sizeLine := by decide
                omega
              · intro b o e
                rw [upd_ne (ne_of_none e hD)]
                exact g2 b o e
              · rw [upd_same, et, ei, List.map_append]
                rfl
          · obtain ⟨g2, hd⟩ := pv
            have ez : (S wd).cps.size = wd.length := by simp [S]
            rw [ez, List.take_length] at hd
            refine ⟨(by show 0 ≤ sizeLine; exact Nat.zero_le _), fun z hz' => ?_⟩
            have nz : D ≠ z := ne_of_none hd hz'
            have oc : ∀ c ∈ oddL wd, c < 128 := fun c h => hc c (List.mem_filter.mp h).1
            refine ⟨_, _, .lst (SqL.of (by rw [upd_ne nz]; exact hd)) (dpStrs _), .lst (SqL.of upd_same) .nil, shStrs oc, by decide, _, rfl, ?_⟩
            have eq : (!PyData.eqv (PyData.list ((oddL wd).map fun c => PyData.str ⟨#[c]⟩)) (PyData.list [])) = !allD wd := by
              cases ea : allD wd with
              | true => rw [odd_nil.mpr ea]; rfl
              | false =>
                cases eo : oddL wd with
                | nil => rw [odd_nil.mp eo] at ea; cases ea
                | cons c r => rfl
            rw [eq]
            exact q _ (g2.tr (grow_new hz'))
        cases ea : allD wd with
        | false =>
          refine sq_yes (evb_or (c1.to (decide_eq_false h1)) (evb_or (c2.to (decide_eq_false h2)) (c3.to (by rw [ea]; rfl)))) fun H2 g2 => ?_
          have e : whole wd = false := by
            unfold whole
            rw [ea, Bool.not_false, Bool.or_true]
            rfl
          rw [← e]
          exact q H2 g2
        | true =>
          refine sq_no (evb_or (c1.to (decide_eq_false h1)) (evb_or (c2.to (decide_eq_false h2)) (c3.to (by rw [ea]; rfl)))) fun H2 g2 => ?_
          have e : whole wd = (decide (wd = [48]) || !decide (wd.head? = some 48)) := by
            unfold whole
            rw [decide_eq_false h1, decide_eq_false h2, ea]
            rfl
          obtain ⟨c, r, rfl⟩ : ∃ c r, wd = c :: r := by
            cases wd with
            | nil => exact absurd rfl h1
            | cons c r => exact ⟨c, r, rfl⟩
          refine ⟨_, rfl, rfl, _, rfl, ?_⟩
          have e0 : decide (V.str (S (c :: r)) = V.str (Str.ofString "0")) = decide (c :: r = [48]) := dS _ _
          rw [e0]
          have fin := q H2 g2
          rw [e] at fin
          cases ed : decide (c :: r = [48]) with
          | true =>
            rw [ed] at fin
            exact iteT fin
          | false =>
            rw [ed, Bool.false_or] at fin
            refine iteF ⟨_, rfl, _, 0, c, rfl, rfl, hz, atI_nat (show (c :: r)[0]? = some c from rfl), rfl, ?_⟩
            have ec : decide (V.str ⟨#[c]⟩ = V.str (Str.ofString "0")) = decide ((c :: r).head? = some 48) := by
              refine decide_eq_decide.mpr ⟨fun h => ?_, fun h => ?_⟩
              · have h' : S [c] = S [48] := V.str.inj h
                have := S_inj h'
                injection this with this _
                rw [this]; rfl
              · have : c = 48 := Option.some.inj h
                rw [this]; rfl
            rw [ec]
            exact fin
end
end B3
set_option maxRecDepth 100000
set_option maxHeartbeats 4000000
set_option exponentiation.threshold 10000
namespace TX
open PySem PySem.NumText RX SX
open TL (numL spl par)
theorem spl_facts : ∀ (n : Nat) (l : List Nat), l.length ≤ n → (∃ w r, spl [47] 0 [] l = w :: r) ∧ (spl [47] 0 [] l).length ≤ l.length + 1 ∧ ∀ w ∈ spl [47] 0 [] l, w.length ≤ l.length ∧ ∀ c ∈ w, c ∈ l := by
  intro n
  induction n with
  | zero =>
    intro l hl
    have : l = [] := List.length_eq_zero_iff.mp (by omega)
    subst this
    have e : spl [47] 0 [] [] = [[]] := rfl
    rw [e]
    exact ⟨⟨[], [], rfl⟩, by decide, fun w hw => by
      rw [List.mem_singleton.mp hw]
      exact ⟨Nat.le_refl _, fun c h => h⟩⟩
  | succ n ih =>
    intro l hl
    by_cases h : 47 ∈ l
    · obtain ⟨p, q, rfl, np⟩ := split_first h
      have es : spl [47] 0 [] (p ++ 47 :: q) = p :: spl [47] 0 [] q := by
        rw [show p ++ 47 :: q = p ++ ([47] ++ q) from rfl, TL.spl_part1 np, List.nil_append]
      rw [List.length_append, List.length_cons] at hl
      obtain ⟨_, h2, h3⟩ := ih q (by omega)
      rw [es, List.length_append, List.length_cons, List.length_cons]
      refine ⟨⟨p, _, rfl⟩, by omega, fun w hw => ?_⟩
      rcases List.mem_cons.mp hw with rfl | hw
      · exact ⟨by omega, fun c hc => List.mem_append_left _ hc⟩
      · obtain ⟨a, b⟩ := h3 w hw
        exact ⟨by omega, fun c hc => List.mem_append_right _ (List.mem_cons_of_mem _ (b c hc))⟩
    · have es : spl [47] 0 [] l = [l] := by
        rw [TL.spl_last1 h, List.nil_append]
      rw [es]
      exact ⟨⟨l, [], rfl⟩, by simp, fun w hw => by
        rw [List.mem_singleton.mp hw]
        exact ⟨Nat.le_refl _, fun c h => h⟩⟩
theorem Ok.strip {n : Nat} {l : List Nat} (h : Ok n l) : Ok n (stripm l) := by
  refine ⟨Nat.le_trans (stripm_len l) h.len, fun c hc => h.cps c ?_⟩
  cases l with
  | nil => exact hc
  | cons a r =>
    have e : stripm (a :: r) = if a = 45 then r else a :: r := rfl
    rw [e] at hc
    split at hc
    · exact List.mem_cons_of_mem _ hc
    · exact hc
def ResP (o : Option (Int × Int)) (v : L2.V) (H : L2.Hp) : Prop := match o with
  | none => v = .non
  | some (t, b) => ∃ a, v = .ref a ∧ H a = some (.tup [.int t, .int b])
end TX
namespace B3
open PySem PySem.Spec PyProof.Rows L2 RX LP SX TX
abbrev sLRead : Stmt := top 18
section
variable {σ : L2.St} {H : Hp} {c c' : TT} {b b' : Bool}
theorem evb_or2 (h : EvB c σ H b) (h' : EvB c' σ H b') : EvB (tOr c c') σ H (b || b') := by
  cases b with
  | true => exact evb_or1 h
  | false => exact evb_or h h'
end
section
variable {σ : L2.St} {H : Hp} {ta tb : TE} {x y v : V} {D : Ends} {sp : Sp} {E : XK}
theorem ret_tup2 (ha : Val ta σ H x) (hb : Val tb σ H y) (q : ∀ p, H p = none → D.rt (.ref p) (upd H p (.tup [x, y]))) : tRet (tTup (tCons ta (tCons tb tNil))) D σ H := ha _ (hb _ ⟨(by show 2 ≤ sizeLine; decide), fun p hp => q p hp⟩)
theorem val_call2 (ha : Val ta σ H x) (hb : Val tb σ H y) (hs : ∀ Q : VK, Q v H → sp [x, y] H Q E) : Val (tCall sp [] E (tCons ta (tCons tb tNil))) σ H v := fun Q q => ha _ (hb _ (hs Q q))
end
def spLRead (K : PySem.W.Frag) : Sp := fun vs H Q _ => ∃ x, vs = [x] ∧ ((∃ l, x = .str (S l) ∧ Ok 50000 l ∧ ∀ v H', Grow H H' → ResP (lawR l) v H' → Q v H') ∨ (∃ t, TyX K H x t ∧ PySem.W.kitOne K t (.type "str") = some false ∧ Q .non H))
section
variable {P : Program} {w : World} {K : PySem.W.Frag} {mg : Str → Option Value} {base : Heap} {f fW fG : Addr} {fd fdW fdG : FuncData}
theorem scLRead : FnScope ["_law_value", "_law_words", "_law_top"] ["_law_value"] (defScope sLRead) := ⟨rfl, rfl, rfl, by decide +kernel, rfl, by decide +kernel, by decide +kernel⟩
theorem ok_lread (F : Fun K "_law_read" "_law_read" sLRead f fd) (B : Bl mg) (GW : FnOk P w K mg base CX0 1 fW fdW ["_law_word"] spWhole) (DW : At K mg "_law_whole" fW fdW ["_law_word"]) (GG : FnOk P w K mg base CX0 1 fG fdG psG spDivisor) (DG : At K mg "_law_divisor" fG fdG psG) :
    FnOk P w K mg base CX0 2 f fd ["_law_value"] (spLRead K) := by
  refine F.ok scLRead (fun vs H Q E h => ?_) (fun cdv A outer s H vs Q E hr h => ?_)
  · obtain ⟨x, rfl, _⟩ := h
    rfl
  · obtain ⟨x, rfl, h⟩ := h
    have nd := scLRead.nd
    have lens : CallR (cxOf CX0 P w K mg base ["_law_value", "_law_words", "_law_top"] "_law_read" (defScope sLRead) f cdv A outer s H E).nox (.builtin "len") (fun xs H Q => ∃ p ys, xs = [V.ref p] ∧ (SqL K H p ys ∨ SqT K H p ys) ∧ Q (V.int (ys.length : Int)) H) := call_len_seq
    refine ⟨_, pss_cons (ps_if (pt_not (pt_val (pe_callB call_isi (by rfl) B.isi (by decide +kernel) (pa_cons (pv 0) (pa_cons (pe_bltn (v := .ty "str") (by rfl) B.str (by decide +kernel) rfl) pa_nil))))) (pss_one (ps_ret pe_non)) pss_nil)
      (pss_cons (ps_set (i := 1) nd rfl (Or.inl rfl) (pe_split (pv 0) pe_str))
      (pss_cons (ps_set (i := 2) nd rfl (Or.inl rfl) (pe_ifExp (pt_cmpR op_eq (pe_slice C8.sl_txt (pe_ix (r := rIxL K) ix_list (pv 1) pe_int (fun _ _ => rfl)) po_none (po_some pe_int)) pe_str (nomark _))
          (pe_slice C8.sl_txt (pe_ix (r := rIxL K) ix_list (pv 1) pe_int (fun _ _ => rfl)) (po_some pe_int) po_none) (pe_ix (r := rIxL K) ix_list (pv 1) pe_int (fun _ _ => rfl))))
      (pss_cons (ps_if (PW.pt (pw_or (pt_cmpR op_gt (pe_callB lens (by rfl) B.len PySem.boot_len (pa_cons (pv 1) pa_nil)) pe_int (nomark _))
          (pw_or (pt_not (pt_val (pe_call GW (hr.mono (by decide)) (by rfl) DW.mg DW.kp DW.b .nil pass0 (pa_cons (pv 2) pa_nil)))) (pw_or1 (pt_cmpR op_eq (pe_ix (r := rIxL K) ix_list (pv 1) pe_int (fun _ _ => rfl)) pe_str (nomark _)))))) (pss_one (ps_ret pe_non)) pss_nil)
      (pss_cons (ps_if (pt_cmpR op_eq (pe_callB lens (by rfl) B.len PySem.boot_len (pa_cons (pv 1) pa_nil)) pe_int (nomark _))
          (pss_one (ps_ret (pe_tup (pa_cons (pe_callTy call_int_str (by rfl) B.int (by decide +kernel) (pa_cons (pe_ix (r := rIxL K) ix_list (pv 1) pe_int (fun _ _ => rfl)) pa_nil)) (pa_cons pe_int pa_nil))))) pss_nil)
      (pss_cons (ps_if (PW.pt (pw_or (pt_not (pt_val (pe_call GW (hr.mono (by decide)) (by rfl) DW.mg DW.kp DW.b .nil pass0 (pa_cons (pe_ix (r := rIxL K) ix_list (pv 1) pe_int (fun _ _ => rfl)) pa_nil))))
          (pw_or1 (pt_cmpR op_in_seq (pe_ix (r := rIxL K) ix_list (pv 1) pe_int (fun _ _ => rfl)) (pe_tup (pa_cons pe_str (pa_cons pe_str pa_nil))) rfl)))) (pss_one (ps_ret pe_non)) pss_nil)
      (pss_cons (ps_if (pt_cmpR op_ne (pe_call GG (hr.mono (by decide)) (by rfl) DG.mg DG.kp DG.b .nil pass0 (pa_cons (pe_callTy call_int_str (by rfl) B.int (by decide +kernel) (pa_cons (pe_ix (r := rIxL K) ix_list (pv 1) pe_int (fun _ _ => rfl)) pa_nil)) (pa_cons (pe_callTy call_int_str (by rfl) B.int (by decide +kernel) (pa_cons (pe_ix (r := rIxL K) ix_list (pv 1) pe_int (fun _ _ => rfl)) pa_nil)) pa_nil))) pe_int (nomark _))
          (pss_one (ps_ret pe_non)) pss_nil)
      (pss_one (ps_ret (pe_tup (pa_cons (pe_callTy call_int_str (by rfl) B.int (by decide +kernel) (pa_cons (pe_ix (r := rIxL K) ix_list (pv 1) pe_int (fun _ _ => rfl)) pa_nil)) (pa_cons (pe_callTy call_int_str (by rfl) B.int (by decide +kernel) (pa_cons (pe_ix (r := rIxL K) ix_list (pv 1) pe_int (fun _ _ => rfl)) pa_nil)) pa_nil))))))))))), ?_⟩
    show tSeq _ _ _ [some x, none, none] H
    rcases h with ⟨l, rfl, ok, q⟩ | ⟨t, ty, kt, q⟩
    · have big : 100000 ≤ sizeLine := by decide
      have hl := ok.len
      refine sA_no (ans_not (ans_val (b := true) (val_isi (val_var rfl) (.base (.str _)) (kit_ty (by decide +kernel)) (.ty _)))) ?_
      obtain ⟨⟨w0, rest, ew⟩, hlen, hmem⟩ := spl_facts l.length l (Nat.le_refl _)
      have esp : Txt.split (S l) (Str.ofString "/") = (w0 :: rest).map S := by
        rw [← ew]
        exact SX.split_S (b := [47]) (by simp) (by decide)
      refine sA_setR ?_
      refine ⟨_, rfl, ⟨_, rfl⟩, _, _, rfl, rfl, rfl, by rw [S_len]; omega, fun z hz => ?_⟩
      rw [esp]
      have g1 : Grow H (upd H z (.lst (((w0 :: rest).map S).map V.str))) := grow_new hz
      have hZ : (upd H z (.lst (((w0 :: rest).map S).map V.str))) z = some (.lst (((w0 :: rest).map S).map V.str)) := upd_same
      show tSeq (tAsg _ _) _ _ [some (V.str (S l)), some (V.ref z), none] _
      generalize upd H z (.lst (((w0 :: rest).map S).map V.str)) = H1 at g1 hZ ⊢
      have ok0 : Ok 50000 w0 := by
        obtain ⟨a, b⟩ := hmem w0 (by rw [ew]; exact List.mem_cons_self)
        exact ⟨by omega, fun c hc => ok.cps c (b c hc)⟩
      have word : ∀ {σ : L2.St} {H2 : Hp} (j : Nat) (wj : List Nat), σ[1]? = some (some (.ref z)) → Grow H1 H2 → (w0 :: rest)[j]? = some wj → Val (tOp (rIxL K) (tVar 1) (tC (.int (j : Int)))) σ H2 (.str (S wj)) := by
        intro σ H2 j wj h1 g hj
        exact val_op (val_var h1) val_c fun Q q => ⟨z, _, _, _, rfl, rfl, SqL.of (g _ _ hZ), atI_nat (by rw [List.getElem?_map, List.getElem?_map, hj]; rfl), q⟩
      have lenV : ∀ {σ : L2.St} {H2 : Hp}, σ[1]? = some (some (.ref z)) → Grow H1 H2 → Val (tCB (fun xs H Q => ∃ p ys, xs = [V.ref p] ∧ (SqL K H p ys ∨ SqT K H p ys) ∧ Q (V.int (ys.length : Int)) H) (tCons (tVar 1) tNil)) σ H2 (.int ((w0 :: rest).length : Int)) := by
        intro σ H2 h1 g Q q
        refine ⟨_, h1, z, _, rfl, .inl (SqL.of (g _ _ hZ)), ?_⟩
        rw [List.length_map, List.length_map]
        exact q
      have hz0 : (S w0).length ≤ sizeLine := by rw [S_len]; have := ok0.len; omega
      have at0 : atI (((w0 :: rest).map S).map V.str) 0 = some (.str (S w0)) := atI_nat (j := 0) rfl
      have et : Txt.slice (S w0) none (some 1) = S (w0.take 1) := slice_to (by decide)
      have ef : Txt.slice (S w0) (some 1) none = S (w0.drop 1) := slice_from (by decide)
      have dS : ∀ a b : List Nat, decide (V.str (S a) = V.str (S b)) = decide (a = b) := fun a b => dec_S
      refine sA_set (v := .str (S (stripm w0))) (fun Q q => ?_) ?_
      · refine ⟨_, rfl, z, _, _, _, rfl, rfl, SqL.of hZ, at0, _, rfl, _, rfl, hz0, rfl, _, rfl, ?_⟩
        have e1 : decide (V.str (Txt.slice (S w0) none (some 1)) = V.str (Str.ofString "-")) = decide (w0.take 1 = [45]) := by
          rw [et]
          exact dS _ _
        rw [e1]
        cases w0 with
        | nil =>
          rw [decide_eq_false (by simp)]
          refine iteF ⟨_, rfl, z, _, _, _, rfl, rfl, SqL.of hZ, at0, ?_⟩
          exact q
        | cons c r =>
          have e2 : stripm (c :: r) = if c = 45 then r else c :: r := rfl
          by_cases hc : c = 45
          · subst hc
            rw [decide_eq_true (by rfl)]
            refine iteT ⟨_, rfl, z, _, _, _, rfl, rfl, SqL.of hZ, at0, _, rfl, _, rfl, hz0, ?_⟩
            rw [ef]
            exact q
          · rw [decide_eq_false (by simp [hc])]
            refine iteF ⟨_, rfl, z, _, _, _, rfl, rfl, SqL.of hZ, at0, ?_⟩
            rw [e2, if_neg hc] at q
            exact q
      show tSeq (tIfS _ _ _) _ _ [some (V.str (S l)), some (V.ref z), some (V.str (S (stripm w0)))] H1
      have eL : lawR l = if decide (2 < (w0 :: rest).length) || !whole (stripm w0) || decide (w0 = [45, 48]) then none
          else if (w0 :: rest).length = 1 then some (sval w0, 1)
          else if !whole ((w0 :: rest).getD 1 []) || (decide ((w0 :: rest).getD 1 [] = [48]) || decide ((w0 :: rest).getD 1 [] = [49])) then none
          else if Nat.gcd (sval w0).natAbs (val ((w0 :: rest).getD 1 [])) ≠ 1 then none
          else some (sval w0, (val ((w0 :: rest).getD 1 []) : Int)) := by
        unfold lawR
        rw [ew]
        rfl
      have lenP : 1 ≤ (w0 :: rest).length := by rw [List.length_cons]; omega
      have c1 : EvB _ [some (V.str (S l)), some (V.ref z), some (V.str (S (stripm w0)))] H1 (decide (2 < (w0 :: rest).length)) := fun H2 g Q q =>
        ans_gt (m := 2) (lenV rfl g) (decide_eq_decide.mpr ⟨fun h => by omega, fun h => by omega⟩) _ (q H2 grow_rfl)
      have c2 : EvB (tNot (tB (tCall spWhole [] E0 (tCons (tVar 2) tNil)))) [some (V.str (S l)), some (V.ref z), some (V.str (S (stripm w0)))] H1 (!whole (stripm w0)) :=
        evb_not (evb_val fun H2 g Q q => ⟨_, rfl, _, rfl, ok0.strip, fun H3 g3 => q _ _ g3 rfl⟩)
      have c3 : EvB _ [some (V.str (S l)), some (V.ref z), some (V.str (S (stripm w0)))] H1 (decide (w0 = [45, 48])) := fun H2 g Q q =>
        ans_eq (y := .str (Str.ofString "-0")) (word 0 w0 rfl g rfl) val_c rfl (dS w0 [45, 48]) _ (q H2 grow_rfl)
      have c123 := evb_or2 c1 (evb_or2 c2 c3)
      cases e123 : (decide (2 < (w0 :: rest).length) || (!whole (stripm w0) || decide (w0 = [45, 48]))) with
      | true =>
        refine sq_yes (c123.to e123) fun H2 g2 => ?_
        refine q _ H2 (g1.tr g2) ?_
        rw [eL, Bool.or_assoc, e123, if_pos rfl]
        rfl
      | false =>
        refine sq_no (c123.to e123) fun H2 g2 => ?_
        rw [Bool.or_assoc, e123, if_neg (by decide)] at eL
        have wh : whole (stripm w0) = true := by
          simp only [Bool.or_eq_false_iff, Bool.not_eq_false'] at e123
          exact e123.2.1
        have l2 : (w0 :: rest).length ≤ 2 := by
          simp only [Bool.or_eq_false_iff, decide_eq_false_iff_not] at e123
          omega
        have d0 := whole_digs wh
        have i0 := int_of d0
        have small0 : (S w0).length ≤ 640 := by
          rw [S_len]
          have h1 := stripm_len1 w0
          have h2 : (stripm w0).length ≤ 60 := by
            unfold digs at d0
            simp only [Bool.and_eq_true, decide_eq_true_eq] at d0
            exact d0.1.2
          omega
        have iv0 : ∀ {H3 : Hp}, Grow H1 H3 → Val (tCB (fun xs H Q => ∃ a n, xs = [V.str a] ∧ PySem.intText? a = some n ∧ a.length ≤ 640 ∧ Q (V.int n) H) (tCons (tOp (rIxL K) (tVar 1) (tC (.int 0))) tNil)) [some (V.str (S l)), some (V.ref z), some (V.str (S (stripm w0)))] H3 (.int (sval w0)) := fun {H3} g Q q =>
          word (H2 := H3) 0 w0 rfl g rfl _ ⟨_, _, rfl, i0, small0, q⟩
        have cl : Ans _ [some (V.str (S l)), some (V.ref z), some (V.str (S (stripm w0)))] H2 (decide ((w0 :: rest).length = 1)) :=
          ans_eq (y := .int 1) (lenV rfl g2) val_c rfl (decide_eq_decide.mpr ⟨fun h => by have := V.int.inj h; omega, fun h => by rw [h]; rfl⟩)
        by_cases h1 : (w0 :: rest).length = 1
        · refine sA_yes (cl.to (decide_eq_true h1)) ?_
          rw [if_pos h1] at eL
          refine ret_tup2 (iv0 g2) val_c fun y hy => ?_
          refine q _ _ ((g1.tr g2).tr (grow_new hy)) ?_
          rw [eL]
          exact ⟨y, rfl, upd_same⟩
        · refine sA_no (cl.to (decide_eq_false h1)) ?_
          rw [if_neg h1] at eL
          obtain ⟨w1, rfl⟩ : ∃ w1, rest = [w1] := by
            cases rest with
            | nil => exact absurd rfl h1
            | cons w1 r =>
              cases r with
              | nil => exact ⟨w1, rfl⟩
              | cons a b => rw [List.length_cons, List.length_cons, List.length_cons] at l2; omega
          have eg : [w0, w1].getD 1 [] = w1 := rfl
          rw [eg] at eL
          have ok1 : Ok 50000 w1 := by
            obtain ⟨a, b⟩ := hmem w1 (by rw [ew]; simp)
            exact ⟨by omega, fun c hc => ok.cps c (b c hc)⟩
          have d1 : EvB (tNot (tB (tCall spWhole [] E0 (tCons (tOp (rIxL K) (tVar 1) (tC (.int 1))) tNil)))) [some (V.str (S l)), some (V.ref z), some (V.str (S (stripm w0)))] H2 (!whole w1) :=
            evb_not (evb_val fun H3 g Q q => word (H2 := H3) 1 w1 rfl (g2.tr g) rfl _ ⟨_, rfl, ok1, fun H4 g4 => q _ _ g4 rfl⟩)
          have d2 : EvB (tTest (tOp (rIn K false) (tOp (rIxL K) (tVar 1) (tC (.int 1))) (tTup (tCons (tC (.str (Str.ofString "0"))) (tCons (tC (.str (Str.ofString "1"))) tNil))))) [some (V.str (S l)), some (V.ref z), some (V.str (S (stripm w0)))] H2 (decide (w1 = [48]) || decide (w1 = [49])) := by
            intro H3 g Q q
            refine word (H2 := H3) 1 w1 rfl (g2.tr g) rfl _ ⟨(by show 2 ≤ sizeLine; decide), fun y hy => ?_⟩
            refine ⟨y, _, rfl, .inr (SqT.of upd_same), rfl, rfl, _, rfl, ?_⟩
            have e : inV (V.str (S w1)) [V.str (Str.ofString "0"), V.str (Str.ofString "1")] = (decide (w1 = [48]) || decide (w1 = [49])) := by
              show ((S [48] == S w1) || ((S [49] == S w1) || false)) = _
              rw [Bool.or_false, S_beq_eq, S_beq_eq]
              rw [show decide ([48] = w1) = decide (w1 = [48]) from decide_eq_decide.mpr ⟨Eq.symm, Eq.symm⟩, show decide ([49] = w1) = decide (w1 = [49]) from decide_eq_decide.mpr ⟨Eq.symm, Eq.symm⟩]
            show Q (inV (V.str (S w1)) [V.str (Str.ofString "0"), V.str (Str.ofString "1")]) _
            rw [e]
            exact q _ (grow_new hy)
          have d12 := evb_or2 d1 d2
          cases e12 : (!whole w1 || (decide (w1 = [48]) || decide (w1 = [49]))) with
          | true =>
            refine sq_yes (d12.to e12) fun H3 g3 => ?_
            refine q _ H3 ((g1.tr g2).tr g3) ?_
            rw [eL, e12, if_pos rfl]
            rfl
          | false =>
            refine sq_no (d12.to e12) fun H3 g3 => ?_
            rw [e12, if_neg (by decide)] at eL
            have wh1 : whole w1 = true := by
              simp only [Bool.or_eq_false_iff, Bool.not_eq_false'] at e12
              exact e12.1
            have dd1 := whole_digs wh1
            have i1 := int_of' dd1
            have small1 : (S w1).length ≤ 640 := by
              rw [S_len]
              unfold digs at dd1
              simp only [Bool.and_eq_true, decide_eq_true_eq] at dd1
              omega
            have iv1 : ∀ {H4 : Hp}, Grow H1 H4 → Val (tCB (fun xs H Q => ∃ a n, xs = [V.str a] ∧ PySem.intText? a = some n ∧ a.length ≤ 640 ∧ Q (V.int n) H) (tCons (tOp (rIxL K) (tVar 1) (tC (.int 1))) tNil)) [some (V.str (S l)), some (V.ref z), some (V.str (S (stripm w0)))] H4 (.int ((val w1 : Nat) : Int)) := fun {H4} g Q q =>
              word (H2 := H4) 1 w1 rfl g rfl _ ⟨_, _, rfl, i1, small1, q⟩
            have cg : Ans _ [some (V.str (S l)), some (V.ref z), some (V.str (S (stripm w0)))] H3 (!decide (Nat.gcd (sval w0).natAbs (val w1) = 1)) :=
              ans_ne (ta := tCall spDivisor [] E0 (tCons (tCB (fun xs H Q => ∃ a n, xs = [V.str a] ∧ PySem.intText? a = some n ∧ a.length ≤ 640 ∧ Q (V.int n) H) (tCons (tOp (rIxL K) (tVar 1) (tC (.int 0))) tNil)) (tCons (tCB (fun xs H Q => ∃ a n, xs = [V.str a] ∧ PySem.intText? a = some n ∧ a.length ≤ 640 ∧ Q (V.int n) H) (tCons (tOp (rIxL K) (tVar 1) (tC (.int 1))) tNil)) tNil))) (x := .int ((Nat.gcd (sval w0).natAbs ((val w1 : Nat) : Int).natAbs : Nat) : Int)) (y := .int 1) (val_call2 (iv0 (g2.tr g3)) (iv1 (g2.tr g3)) fun Q q => ⟨_, _, rfl, q⟩) val_c rfl (by
                rw [Int.natAbs_natCast]
                exact congrArg Bool.not (decide_eq_decide.mpr ⟨fun h => by have := V.int.inj h; omega, fun h => by rw [h]; rfl⟩))
            by_cases hg : Nat.gcd (sval w0).natAbs (val w1) = 1
            · refine sA_no (cg.to (by rw [decide_eq_true hg]; rfl)) ?_
              rw [if_neg (fun h => h hg)] at eL
              refine ret_tup2 (iv0 (g2.tr g3)) (iv1 (g2.tr g3)) fun y hy => ?_
              refine q _ _ (((g1.tr g2).tr g3).tr (grow_new hy)) ?_
              rw [eL]
              exact ⟨y, rfl, upd_same⟩
            · refine sA_yes (cg.to (by rw [decide_eq_false hg]; rfl)) ?_
              rw [if_pos hg] at eL
              refine q _ H3 ((g1.tr g2).tr g3) ?_
              rw [eL]
              rfl
    · refine sA_yes (ans_not (ans_val (b := false) (val_isi (val_var rfl) ty kt (.ty _)))) ?_
      exact q
end
end B3
set_option maxRecDepth 100000
set_option maxHeartbeats 4000000
set_option exponentiation.threshold 10000
namespace RX
open PySem PySem.Spec PyProof.Rows L2
/-- C.m(e, ..), m a classmethod, where what it raises is wished slot by slot -/
def tCMethS (C : Addr) (sp : Sp) (E : L2.St → XK) (ta : TE) (t : TA) : TE := fun σ H Q => ta σ H fun x H1 => x = .ref C ∧ t σ H1 fun vs H2 => sp (.ref C :: vs) H2 Q (E σ)
section
variable {X : Cx} {CX : CXT} {k : Nat} {C p g : Addr} {mc : Value} {fd : FuncData} {ps : List Str} {sp : Sp} {E : L2.St → XK} {o e : Expr} {es : List Expr} {m : Str} {pos apos : Pos} {ta : TE} {t : TA} {pl : Sem Bool}
theorem pe_cmethS (he : PE X o ta) (r : ClX.CRead X.K C mc) (c : ClX.CMet X.K C mc m p g) (F : FnOk X.prog X.w X.K X.mg X.base CX k g fd ps sp) (hr : Room k X.A) (hb : Binds X.K fd ps []) (hx : ∀ σ, PassesAt CX X σ (E σ)) (ha : PA X (e :: es) t)
    (hst : starEach (e :: es) X.env = (false, eval e X.env) :: starEach es X.env := by rfl) (hpl : (backTo pos (starEach es X.env)).any (·.1) = false := by rfl)
    (ht : eval (.Call (.Attribute o m apos) (e :: es) [] pos) X.env = (do
      let ov ← eval o X.env
      standAt apos.atName
      let (f, first) ← holding [ov] (getMethod ov m pl)
      callWith pos f first (backTo pos (starEach (e :: es) X.env)) (backToKw pos (keywordEach [] X.env))) := by rfl) :
    PE X (.Call (.Attribute o m apos) (e :: es) [] pos) (tCMethS C sp E ta t) := by
  refine ⟨fun pins s σ H Q I h => ?_⟩
  refine PySem.W.methodCall_KW (pl := pl) (thn (he.run pins s σ H _ I h) fun u s1 ⟨x, H1, I1, rx, ex, q⟩ => ?_) ht
  subst ex
  obtain rfl : u = Value.ref C := rx
  refine ClX.getmethcm_ok I1 r c fun s2 I2 => ?_
  refine ClX.callwith_cm I2 (ClX.base_none I1 (Nat.le_refl _)) c.fi (thn (ha.run pos _ s2 σ H1 _ I2 q) fun us s3 ⟨vs, H2, I3, rv, q2⟩ => ⟨⟨ClX.pin_at I3, I3.kIn⟩, ?_⟩) hst hpl
  have z : wpAny (model X.prog X.w) X.A (call (.ref s1.heap.objs.size) us) (EP X ((s1.heap.objs.size, PySem.W.methodObj (.ref g) (.ref C)) :: pins) σ Q) X.xe s3 := by
    refine wpAny_call (PySem.W.method_call (ClX.pin_at I3) ?_)
    have r2 : Vals (.ref C :: vs) (.ref C :: us) := .cons rfl rv
    have hl : (Value.ref C :: us).length = ps.length := by rw [← r2.length]; exact F.len _ _ _ _ q2
    have hbb := hb s3 (.ref C :: us) I3.kIn (by simpa using hl)
    rw [List.append_nil] at hbb
    refine codeAny_mono (F.run X.A X.stack s3 H2 ⟨.ref C :: us, []⟩ (.ref C :: us) (.ref C :: vs) Q (E σ) hr I3.env0 hbb r2 q2) fun r s' hq => ?_
    cases r with
    | error e => exact hx σ _ H2 s3 e s' I3 hq
    | ok fl =>
      cases fl with
      | ret u => exact I3.after hq
      | next => exact False.elim hq
      | brk => exact False.elim hq
      | cont => exact False.elim hq
  exact thn z fun _ _ y => ClX.unpinE y
end
end RX
namespace B3
open PySem PySem.Spec PyProof.Rows L2 RX LP SX TX
abbrev sTold : Stmt := top 21
/-- what stands of the error in the written part -/
structure HTx (K : PySem.W.Frag) (mg : Str → Option Value) (CI CF : Addr) : Prop where
  gF : mg "FaceError" = some (.ref CF)
  eII : PySem.W.exmOne K (.ref CI) (.ref CI) = some true
  xI : ExcC K CI
  iF : PySem.W.kitOne K (.ref CI) (.ref CF) = some true
  iV : PySem.W.kitOne K (.ref CI) (.type "ValueError") = some true
/-- the class method read -/
structure RdF (P : Program) (w : World) (K : PySem.W.Frag) (mg : Str → Option Value) (base : Heap) (C CI : Addr) (mc : Value) (p g : Addr) (fd : FuncData) : Prop where
  rd : ClX.CRead K C mc
  cm : ClX.CMet K C mc "read" p g
  ok : FnOk P w K mg base (L2.CX P w) 4 g fd ["cls", "text"] (spRead K C CI)
  b : Binds K fd ["cls", "text"] []
section
variable {P : Program} {w : World} {K : PySem.W.Frag} {mg : Str → Option Value} {base : Heap} {C CI CQ CF f p g : Addr} {mc : Value} {fd fdR : FuncData}
abbrev nsTold : List Str := ["_law_value", "_law_found", "error"]
theorem scTold : FnScope nsTold ["_law_value"] (defScope sTold) := ⟨rfl, rfl, rfl, by decide +kernel, rfl, by decide +kernel, by decide +kernel⟩
theorem val_isE {K : PySem.W.Frag} {D a : Addr} {σ : L2.St} {H : Hp} {i : Nat} {c : V} {cv : Value} {b : Bool} (h : σ[i]? = some (some (.ref a))) (hc : ClsV c cv) (k : PySem.W.kitOne K (.ref D) cv = some b) : Val (tCB (rIsE K D a) (tCons (tVar i) (tCons (tC c) tNil))) σ H (.bl b) := fun Q q => ⟨_, h, c, cv, b, rfl, fun _ r => hc.eq r, k, q⟩
theorem ok_told (F : Fun K "_law_told" "_law_told" sTold f fd) (T : RTx K mg C CI CQ) (B : Bl mg) (HT : HTx K mg CI CF) (R : RdF P w K mg base C CI mc p g fdR) : FnOk P w K mg base CX0 5 f fd ["_law_value"] (spLRead K) := by
  refine F.ok scTold (fun vs H Q E h => ?_) (fun cdv A outer s H vs Q E hr h => ?_)
  · obtain ⟨x, rfl, _⟩ := h
    rfl
  · obtain ⟨x, rfl, h⟩ := h
    have nd := scTold.nd
    let X1 : Cx := (cxOf CX0 P w K mg base nsTold "_law_told" (defScope sTold) f cdv A outer s H E).nox
    refine ⟨_, pss_cons (ps_try_names (X := X1) (tb := fun W => tAsg (tCMethS C (spRead K C CI) (WE W) (tC (.ref C)) (tCons (tVar 0) tNil)) (gName 1)) rfl rfl nd LamX.takes0
        (fun W pn xe tk _ => pss_one (ps_set (i := 1) nd rfl (Or.inl rfl) (pe_cmethS (pe_glob (v := .ref C) (by rfl) T.gR rfl) R.rd R.cm R.ok (hr.mono (by decide)) R.b (fun σ => passAt tk σ) (pa_cons (pv 0) pa_nil))))
        (.cons (i := 2) (c := .ref CI) (ts := fun a cls d D σ H => cls = .ref CI ∧ d = none ∧ σ[2]? = some (some (.ref a)) ∧ D.rt .non H) rfl rfl ⟨rfl, by decide, .inl T.gI⟩ (fun a oe cls d pn hz hf => ?_) .nil))
      (pss_one (ps_ret (pe_ifExp (pt_val (pe_callB call_isi (by rfl) B.isi (by decide +kernel) (pa_cons (pv 1) (pa_cons (pe_glob (v := .ref C) (by rfl) T.gR rfl) pa_nil))))
        (pe_tup (pa_cons (pe_fld (pv 1) rfl) (pa_cons (pe_fld (pv 1) rfl) pa_nil))) pe_str))), ?_⟩
    · refine ⟨fun pins s' σ H' D I h' => ?_⟩
      obtain ⟨rfl, rfl, h1, h2⟩ := h'
      refine (pss_one (X := X1.suite a ((a, oe) :: pn)) (ps_ret (pe_ifExp (PW.pt (pw_and (pt_val (pe_callB (call_isE HT.xI hz hf) (by rfl) B.isi (by decide +kernel) (pa_cons (pv 2) (pa_cons (pe_glob (v := .ref CF) (by rfl) HT.gF rfl) pa_nil))))
        (pw_and1 (pt_val (pe_callB (call_isE HT.xI hz hf) (by rfl) B.isi (by decide +kernel) (pa_cons (pv 2) (pa_cons (pe_bltn (v := .ty "ValueError") (by rfl) B.ve (by decide +kernel) rfl) pa_nil))))))) pe_non pe_str))).run pins s' σ H' D I ?_
      exact (ans_and (ans_val (val_isE h1 (.own _) HT.iF)) (ans_val (val_isE h1 (.ty _) HT.iV)) _ (iteT h2))
    · have suite : ∀ (W : WX) (D : Ends) (H' : Hp), True := fun _ _ _ => trivial
      rcases h with ⟨l, rfl, ok, q⟩ | ⟨t, ty, kt, q⟩
      · refine ⟨rfl, _, rfl, _, rfl, .inl ⟨l, rfl, ok.len, fun t b e v H1 g hv => ?_, fun e H1 g => ?_⟩⟩
        · obtain ⟨a, dx, rfl, ea⟩ := hv
          dsimp only [gName]
          show tRet _ _ [some (V.str (S l)), some (V.ref a), none] H1
          obtain ⟨tt, tyR, kr⟩ := T.kr ea
          refine ans_val (val_isi (val_var rfl) tyR kr (.own C)) _ (iteT ?_)
          refine ret_tup2 (v_top T rfl ea) (v_bot T rfl ea) fun y hy => ?_
          refine q _ _ (g.tr (grow_new hy)) ?_
          rw [← read_same, e]
          exact ⟨y, rfl, upd_same⟩
        · refine ⟨true, HT.eII, fun _ a ha hl => ⟨rfl, rfl, List.getElem?_set_self (by rw [hl]; show 2 < 3; decide), ?_⟩, fun e => Bool.noConfusion e⟩
          refine q _ _ g ?_
          rw [← read_same, e]
          rfl
      · refine ⟨rfl, _, rfl, _, rfl, .inr ⟨t, ty, kt, ?_⟩⟩
        exact ⟨true, HT.eII, fun _ a ha hl => ⟨rfl, rfl, List.getElem?_set_self (by rw [hl]; show 2 < 3; decide), q⟩, fun e => Bool.noConfusion e⟩
end
end B3
set_option maxRecDepth 100000
set_option maxHeartbeats 4000000
set_option exponentiation.threshold 10000
namespace TX
open PySem PySem.NumText RX SX
structure OkS (n : Nat) (z : Str) : Prop where
  len : z.length ≤ n
  cps : ∀ c ∈ z.cps.toList, c < 128
theorem OkS.mono {n m : Nat} {z : Str} (h : OkS n z) (k : n ≤ m) : OkS m z := ⟨Nat.le_trans h.len k, h.cps⟩
theorem OkS.app {n m : Nat} {x y : Str} (h : OkS n x) (k : OkS m y) : OkS (n + m) (x ++ y) := by
  refine ⟨?_, fun c hc => ?_⟩
  · rw [strLen_append]
    have := h.len
    have := k.len
    omega
  · rw [show (x ++ y).cps.toList = x.cps.toList ++ y.cps.toList from TL.tl_append x y] at hc
    rcases List.mem_append.mp hc with z | z
    · exact h.cps c z
    · exact k.cps c z
theorem OkS.cut {n : Nat} {z : Str} (h : OkS n z) (lo hi : Option Int) : OkS n (L2.cutS z lo hi) := by
  refine ⟨Nat.le_trans (L2.cutS_length z lo hi) h.len, fun c hc => h.cps c ?_⟩
  have e : (L2.cutS z lo hi).cps.toList = (z.cps.toList.drop (HT.sIx z.length 0 lo)).take (HT.sIx z.length z.length hi - HT.sIx z.length 0 lo) := rfl
  rw [e] at hc
  exact List.mem_of_mem_drop (List.mem_of_mem_take hc)
theorem OkS.fits {n : Nat} {z : Str} (h : OkS n z) (s : n ≤ 100000) : z.length ≤ sizeLine := Nat.le_trans h.len (Nat.le_trans s (by decide))
theorem OkS.ok {n : Nat} {z : Str} (h : OkS n z) : Ok n z.cps.toList := ⟨by have := h.len; rw [Array.length_toList]; exact this, h.cps⟩
theorem Ok.s {n : Nat} {l : List Nat} (h : Ok n l) : OkS n (S l) := ⟨by rw [S_len]; exact h.len, h.cps⟩
theorem oks_of {z : Str} {n : Nat} (h : (decide (z.cps.size ≤ n) && z.cps.toList.all fun c => decide (c < 128)) = true) : OkS n z := by
  rw [Bool.and_eq_true, decide_eq_true_eq, List.all_eq_true] at h
  exact ⟨h.1, fun c hc => of_decide_eq_true (h.2 c hc)⟩
end TX
namespace B3
open PySem PySem.Spec PyProof.Rows L2 RX LP SX TX
abbrev sBent : Stmt := top 19
/-- a text of at most n plain signs -/
def TxP (n : Nat) : PV := fun v _ => ∃ z : Str, v = .str z ∧ OkS n z
theorem stb_tx {n : Nat} : Stb (TxP n) := fun _ _ _ _ h => h
def spBent : Sp := fun vs H Q _ => ∃ p l ns k r n z, vs = [.ref p, .str z] ∧ PenAt H p l ns k r ∧ k ≤ 9000 ∧ OkS n z ∧ n ≤ 20000 ∧ Drawn p l ns k 4 H (fun v H' => TxP (2 * n + 2) v H') Q
section
variable {σ : L2.St} {H : Hp} {ta tb : TE} {x y : Str} {n m : Nat} {i : Nat} {z : Str}
theorem v_cat (ha : Val ta σ H (.str x)) (hb : Val tb σ H (.str y)) (h : OkS n x) (k : OkS m y) (s : n + m ≤ 100000) : Val (tOp (fun x y H Q => ∃ i j, x = V.str i ∧ y = V.str j ∧ i.length + j.length ≤ sizeLine ∧ Q (V.str (i ++ j)) H) ta tb) σ H (.str (x ++ y)) :=
  val_op ha hb fun Q q => ⟨_, _, rfl, rfl, Nat.le_trans (Nat.add_le_add h.len k.len) (Nat.le_trans s (by decide)), q⟩
theorem v_to {d : Int} (ha : Val ta σ H (.str z)) (hb : Val tb σ H (.int d)) (h : OkS n z) (s : n ≤ 100000) : Val (tSl rSlS ta tNoPart (tPart tb)) σ H (.str (cutS z none (some d))) := fun Q q =>
  ha _ (hb _ ⟨_, rfl, _, rfl, h.fits s, q⟩)
theorem v_from {d : Int} (ha : Val ta σ H (.str z)) (hb : Val tb σ H (.int d)) (h : OkS n z) (s : n ≤ 100000) : Val (tSl rSlS ta (tPart tb) tNoPart) σ H (.str (cutS z (some d) none)) := fun Q q =>
  ha _ (hb _ ⟨_, rfl, _, rfl, h.fits s, q⟩)
end
def ValA (ta : TA) (σ : L2.St) (H : Hp) (xs : List V) : Prop := ∀ Q : List V → Hp → Prop, Q xs H → ta σ H Q
theorem ValA.nil {σ : L2.St} {H : Hp} : ValA tNil σ H [] := fun Q q => q
theorem ValA.cons {te : TE} {tl : TA} {σ : L2.St} {H : Hp} {x : V} {xs : List V} (a : Val te σ H x) (b : ValA tl σ H xs) : ValA (tCons te tl) σ H (x :: xs) := fun Q q => a _ (b _ q)
theorem lst_of {tl : TA} {σ : L2.St} {H : Hp} {xs : List V} {Q : VK} (h : ValA tl σ H xs) (n : xs.length ≤ 1000) (q : ∀ p, H p = none → Q (.ref p) (upd H p (.lst xs))) : tLst tl σ H Q := h _ ⟨Nat.le_trans n (by decide), q⟩
theorem ret_opl {r : R2} {tl : TA} {tb : TE} {σ : L2.St} {H : Hp} {xs : List V} {D : Ends} (h : ValA tl σ H xs) (n : xs.length ≤ 1000) (q : ∀ p, H p = none → tb σ (upd H p (.lst xs)) fun y H2 => r (.ref p) y H2 D.rt) : tRet (tOp r (tLst tl) tb) D σ H := h _ ⟨Nat.le_trans n (by decide), q⟩
theorem sq_par {tl : TA} {σ : L2.St} {H : Hp} {u : TS} {D : Ends} {i j : Nat} (h : tl σ H fun vs H1 => ∃ x y, vs = [x, y] ∧ u D ((σ.set i (some x)).set j (some y)) H1) : tSeq (tPar i j tl) u D σ H := h
theorem cases6 {d : Int} (h0 : 0 ≤ d) (h3 : d < 6) : d = 0 ∨ d = 1 ∨ d = 2 ∨ d = 3 ∨ d = 4 ∨ d = 5 := by omega
def signsL : List Nat := [48, 49, 50, 51, 52, 53, 54, 55, 56, 57, 47, 45, 43, 46, 32, 10, 95, 97, 90]
section
variable {P : Program} {w : World} {K : PySem.W.Frag} {mg : Str → Option Value} {base : Heap} {f fD : Addr} {fd fdD : FuncData}
abbrev nsBent : List Str := ["_law_pen_here", "_law_page", "_law_signs", "_law_at", "_law_sign", "_law_way"]
theorem scBent : FnScope nsBent ["_law_pen_here", "_law_page"] (defScope sBent) := ⟨rfl, rfl, rfl, by decide +kernel, rfl, by decide +kernel, by decide +kernel⟩
theorem ok_bent (F : Fun K "_law_bent" "_law_bent" sBent f fd) (B : Bl mg) (GD : FnOk P w K mg base CX0 1 fD fdD psD spDraw) (DD : At K mg "_law_draw" fD fdD psD) : FnOk P w K mg base CX0 2 f fd ["_law_pen_here", "_law_page"] spBent := by
  refine F.ok scBent (fun vs H Q E h => ?_) (fun cdv A outer s H vs Q E hr h => ?_)
  · obtain ⟨p, l, ns, k, r, n, z, rfl, _⟩ := h
    rfl
  · obtain ⟨p, l, ns, k, r, n, z, rfl, hP, hk, oz, hn, q⟩ := h
    have nd := scBent.nd
    refine ⟨_, pss_cons (ps_set (i := 2) nd rfl (Or.inl rfl) pe_str)
      (pss_cons (ps_par (i := 3) (j := 4) (by rfl) nd rfl rfl (by decide) rfl rfl (pa_cons (pe_call GD (hr.mono (by decide)) (by rfl) DD.mg DD.kp DD.b .nil pass0 (pa_cons (pv 0) (pa_cons (pe_op op_add (pe_callB call_len_str (by rfl) B.len PySem.boot_len (pa_cons (pv 1) pa_nil)) pe_int) pa_nil)))
          (pa_cons (pe_ix (r := rIxS) ix_str (pv 2) (pe_call GD (hr.mono (by decide)) (by rfl) DD.mg DD.kp DD.b .nil pass0 (pa_cons (pv 0) (pa_cons pe_int pa_nil))) (fun _ _ => rfl)) pa_nil)) (by rfl))
      (pss_cons (ps_set (i := 5) nd rfl (Or.inl rfl) (pe_call GD (hr.mono (by decide)) (by rfl) DD.mg DD.kp DD.b .nil pass0 (pa_cons (pv 0) (pa_cons pe_int pa_nil))))
      (pss_cons (ps_if (pt_cmpR op_eq (pv 5) pe_int (nomark _)) (pss_one (ps_ret (pe_op op_add_str (pe_slice sl_str (pv 1) po_none (po_some (pv 3))) (pe_slice sl_str (pv 1) (po_some (pe_op op_add (pv 3) pe_int)) po_none)))) pss_nil)
      (pss_cons (ps_if (pt_cmpR op_eq (pv 5) pe_int (nomark _)) (pss_one (ps_ret (pe_op op_add_str (pe_op op_add_str (pe_slice sl_str (pv 1) po_none (po_some (pv 3))) (pv 4)) (pe_slice sl_str (pv 1) (po_some (pe_op op_add (pv 3) pe_int)) po_none)))) pss_nil)
      (pss_cons (ps_if (pt_cmpR op_eq (pv 5) pe_int (nomark _)) (pss_one (ps_ret (pe_op op_add_str (pv 1) (pe_slice sl_str (pv 1) (po_some (pv 3)) po_none)))) pss_nil)
      (pss_cons (ps_if (pt_cmpR op_eq (pv 5) pe_int (nomark _)) (pss_one (ps_ret (pe_ix (r := rIxL K) ix_list (pe_lst (pa_cons (pe_op op_add_str (pv 1) pe_str) (pa_cons (pe_op op_add_str pe_str (pv 1)) (pa_cons (pe_op op_add_str pe_str (pv 1)) (pa_cons (pe_op op_add_str pe_str (pv 1)) (pa_cons (pe_op op_add_str (pv 1) pe_str) (pa_cons (pe_op op_add_str pe_str (pv 1)) pa_nil)))))))
          (pe_call GD (hr.mono (by decide)) (by rfl) DD.mg DD.kp DD.b .nil pass0 (pa_cons (pv 0) (pa_cons pe_int pa_nil))) (fun _ _ => rfl)))) pss_nil)
      (pss_one (ps_ret (pe_op op_add_str (pe_op op_add_str (pe_slice sl_str (pv 1) po_none (po_some (pv 3))) (pv 4)) (pe_slice sl_str (pv 1) (po_some (pv 3)) po_none)))))))))), ?_⟩
    have zl : z.length ≤ 20000 := Nat.le_trans oz.len hn
    have big : 100000 ≤ sizeLine := by decide
    show tSeq _ _ _ [some (V.ref p), some (V.str z), none, none, none, none] H
    refine sA_set (v := .str (S signsL)) (fun Q q => q) ?_
    refine sq_par ?_
    refine ⟨_, rfl, _, rfl, _, rfl, by omega, _, _, rfl, rfl, p, l, ns, k, r, _, rfl, hP, by omega, by omega, ?_, fun d1 k1 r1 H1 a0 a1 ak B1 P1 => ?_⟩
    · have : (z.length : Int) + 1 < 2 ^ 20 := by omega
      exact Int.lt_trans this (by decide)
    refine ⟨_, rfl, _, rfl, p, l, ns, k1, r1, 19, rfl, P1, by omega, by decide, by decide, fun d2 k2 r2 H2 b0 b1 bk B2 P2 => ?_⟩
    obtain ⟨j, rfl⟩ : ∃ j : Nat, d2 = (j : Int) := ⟨d2.toNat, by omega⟩
    have hj : j < signsL.length := by show j < 19; omega
    refine ⟨_, _, signsL[j], rfl, rfl, by rw [S_len]; exact Nat.le_trans (by decide) big, atI_nat (List.getElem?_eq_getElem hj), _, _, rfl, ?_⟩
    have osg : OkS 1 (⟨#[signsL[j]]⟩ : Str) := by
      refine ⟨by show (#[signsL[j]] : Array Nat).size ≤ 1; exact Nat.le_refl _, fun c hc => ?_⟩
      have : c = signsL[j] := by simpa using hc
      rw [this]
      have all : ∀ x ∈ signsL, x < 128 := by decide
      exact all _ (List.getElem_mem hj)
    generalize (⟨#[signsL[j]]⟩ : Str) = sg at osg ⊢
    have BB : But p H H2 := B1.trans B2
    refine sA_setR ?_
    refine ⟨_, rfl, p, l, ns, k2, r2, 6, rfl, P2, by omega, by decide, by decide, fun d3 k3 r3 H3 c0 c1 ck B3 P3 => ?_⟩
    have BC : But p H H3 := BB.trans B3
    show tSeq (tIfS _ _ _) _ _ [some (V.ref p), some (V.str z), some (V.str (S signsL)), some (V.int d1), some (V.str sg), some (V.int d3)] H3
    have eqt : ∀ (i : Int) (b : Bool), decide (d3 = i) = b → Ans (tTest (tOp rEq (tVar 5) (tC (.int i)))) [some (V.ref p), some (V.str z), some (V.str (S signsL)), some (V.int d1), some (V.str sg), some (V.int d3)] H3 b := fun i b e =>
      ans_eq (val_var rfl) val_c rfl (by rw [← e]; exact decide_eq_decide.mpr ⟨fun h => by cases h; rfl, fun h => by rw [h]⟩)
    have o1 := oz.cut none (some d1)
    have o2 := oz.cut (some (d1 + 1)) none
    have o3 := oz.cut (some d1) none
    have fin : ∀ (y : Str) (m : Nat), OkS m y → m ≤ 2 * n + 2 → Q (.str y) H3 := fun y m oy hm => q _ _ _ _ (by omega) BC P3 ⟨y, rfl, oy.mono hm⟩
    have vp : ∀ {H' : Hp}, Val (tVar 1) [some (V.ref p), some (V.str z), some (V.str (S signsL)), some (V.int d1), some (V.str sg), some (V.int d3)] H' (.str z) := val_var rfl
    have vd : ∀ {H' : Hp}, Val (tVar 3) [some (V.ref p), some (V.str z), some (V.str (S signsL)), some (V.int d1), some (V.str sg), some (V.int d3)] H' (.int d1) := val_var rfl
    have vs : ∀ {H' : Hp}, Val (tVar 4) [some (V.ref p), some (V.str z), some (V.str (S signsL)), some (V.int d1), some (V.str sg), some (V.int d3)] H' (.str sg) := val_var rfl
    have vd1 : ∀ {H' : Hp}, Val (tOp (rI0 fun i j => V.int (i + j)) (tVar 3) (tC (.int 1))) [some (V.ref p), some (V.str z), some (V.str (S signsL)), some (V.int d1), some (V.str sg), some (V.int d3)] H' (.int (d1 + 1)) := val_op vd val_c fun Q q => ⟨_, _, rfl, rfl, q⟩
    rcases cases6 c0 c1 with h | h | h | h | h | h
    · refine sA_yes (eqt 0 true (decide_eq_true h)) ?_
      exact st_ret (v_cat (v_to vp vd oz (by omega)) (v_from vp vd1 oz (by omega)) o1 o2 (by omega)) (fin _ _ (o1.app o2) (by omega))
    · refine sA_no (eqt 0 false (decide_eq_false (by omega))) (sA_yes (eqt 1 true (decide_eq_true h)) ?_)
      exact st_ret (v_cat (v_cat (v_to vp vd oz (by omega)) vs o1 osg (by omega)) (v_from vp vd1 oz (by omega)) (o1.app osg) o2 (by omega)) (fin _ _ ((o1.app osg).app o2) (by omega))
    · refine sA_no (eqt 0 false (decide_eq_false (by omega))) (sA_no (eqt 1 false (decide_eq_false (by omega))) (sA_yes (eqt 2 true (decide_eq_true h)) ?_))
      exact st_ret (v_cat vp (v_from vp vd oz (by omega)) oz o3 (by omega)) (fin _ _ (oz.app o3) (by omega))
    · refine sA_no (eqt 0 false (decide_eq_false (by omega))) (sA_no (eqt 1 false (decide_eq_false (by omega))) (sA_no (eqt 2 false (decide_eq_false (by omega))) (sA_yes (eqt 3 true (decide_eq_true h)) ?_)))
      have oc : ∀ c : Str, (decide (c.cps.size ≤ 2) && c.cps.toList.all fun c => decide (c < 128)) = true → OkS 2 c := fun c h => oks_of h
      have oa : OkS 2 (Str.ofString "/1") := oc _ (by decide +kernel)
      have ob : OkS 2 (Str.ofString "-") := oc _ (by decide +kernel)
      have od : OkS 2 (Str.ofString "+") := oc _ (by decide +kernel)
      have oe : OkS 2 (Str.ofString "0") := oc _ (by decide +kernel)
      have og : OkS 2 (Str.ofString "\n") := oc _ (by decide +kernel)
      have oi : OkS 2 (Str.ofString " ") := oc _ (by decide +kernel)
      refine ret_opl (ValA.cons (v_cat vp val_c oz oa (by omega)) (ValA.cons (v_cat val_c vp ob oz (by omega)) (ValA.cons (v_cat val_c vp od oz (by omega)) (ValA.cons (v_cat val_c vp oe oz (by omega)) (ValA.cons (v_cat vp val_c oz og (by omega)) (ValA.cons (v_cat val_c vp oi oz (by omega)) ValA.nil)))))) (Nat.le_of_ble_eq_true rfl) fun t ht => ?_
      refine ⟨_, rfl, p, l, ns, k3, r3, 6, rfl, P3.new ht, by omega, by decide, by decide, fun d4 k4 r4 H4 e0 e1 ek B4 P4 => ?_⟩
      have nt : t ≠ p := (ne_of_none P3.pen ht).symm
      have BD : But p H H4 := BC.trans ((But.new ht).trans B4)
      have fin4 : ∀ (y : Str) (m : Nat), OkS m y → m ≤ 2 * n + 2 → Q (.str y) H4 := fun y m oy hm => q _ _ _ _ (by omega) BD P4 ⟨y, rfl, oy.mono hm⟩
      have hT := B4 t _ nt upd_same
      rcases cases6 e0 e1 with rfl | rfl | rfl | rfl | rfl | rfl
      · exact ⟨t, _, 0, _, rfl, rfl, SqL.of hT, rfl, fin4 _ _ (oz.app oa) (by omega)⟩
      · exact ⟨t, _, 1, _, rfl, rfl, SqL.of hT, rfl, fin4 _ _ (ob.app oz) (by omega)⟩
      · exact ⟨t, _, 2, _, rfl, rfl, SqL.of hT, rfl, fin4 _ _ (od.app oz) (by omega)⟩
      · exact ⟨t, _, 3, _, rfl, rfl, SqL.of hT, rfl, fin4 _ _ (oe.app oz) (by omega)⟩
      · exact ⟨t, _, 4, _, rfl, rfl, SqL.of hT, rfl, fin4 _ _ (oz.app og) (by omega)⟩
      · exact ⟨t, _, 5, _, rfl, rfl, SqL.of hT, rfl, fin4 _ _ (oi.app oz) (by omega)⟩
    · refine sA_no (eqt 0 false (decide_eq_false (by omega))) (sA_no (eqt 1 false (decide_eq_false (by omega))) (sA_no (eqt 2 false (decide_eq_false (by omega))) (sA_no (eqt 3 false (decide_eq_false (by omega))) ?_)))
      exact st_ret (v_cat (v_cat (v_to vp vd oz (by omega)) vs o1 osg (by omega)) (v_from vp vd oz (by omega)) (o1.app osg) o3 (by omega)) (fin _ _ ((o1.app osg).app o3) (by omega))
    · refine sA_no (eqt 0 false (decide_eq_false (by omega))) (sA_no (eqt 1 false (decide_eq_false (by omega))) (sA_no (eqt 2 false (decide_eq_false (by omega))) (sA_no (eqt 3 false (decide_eq_false (by omega))) ?_)))
      exact st_ret (v_cat (v_cat (v_to vp vd oz (by omega)) vs o1 osg (by omega)) (v_from vp vd oz (by omega)) (o1.app osg) o3 (by omega)) (fin _ _ ((o1.app osg).app o3) (by omega))
end
end B3
set_option maxRecDepth 100000
set_option maxHeartbeats 4000000
set_option exponentiation.threshold 10000
namespace TX
open PySem PySem.NumText RX SX
theorem rep_list (a : Array Nat) : ∀ (k : Nat) (acc : Array Nat), ((List.replicate k a).foldl (· ++ ·) acc).toList = acc.toList ++ (List.replicate k a.toList).flatten
  | 0, acc => by simp
  | k + 1, acc => by
    rw [List.replicate_succ, List.foldl_cons, rep_list a k, List.replicate_succ, List.flatten_cons, Array.toList_append, List.append_assoc]
def repL (l : List Nat) (k : Nat) : List Nat := (List.replicate k l).flatten
theorem repL_len (l : List Nat) (k : Nat) : (repL l k).length = k * l.length := PyProof.Rows.lm_len_rep_flat l k
theorem repL_mem {l : List Nat} {k c : Nat} (h : c ∈ repL l k) : c ∈ l := by
  unfold repL at h
  obtain ⟨x, hx, hc⟩ := List.mem_flatten.mp h
  rw [(List.mem_replicate.mp hx).2] at hc
  exact hc
theorem repL_ok {l : List Nat} {k n : Nat} (h : k * l.length ≤ n) (c : l.all (fun c => decide (c < 128)) = true) : OkS n (S (repL l k)) :=
  Ok.s ⟨by rw [repL_len]; exact h, fun x hx => of_decide_eq_true (List.all_eq_true.mp c x (repL_mem hx))⟩
end TX
namespace B3
open PySem PySem.Spec PyProof.Rows L2 RX LP SX TX
abbrev sFar : Stmt := top 20
def rMulG (l : List Nat) (k : Int) : R2 := fun x y H Q => x = .str (S l) ∧ y = .int k ∧ Q (.str (S (repL l k.toNat))) H
theorem op_mulG {X : Cx} (l : List Nat) (k : Int) (h1 : (decide (k < -(2 ^ 63 : Int)) || decide (k ≥ 2 ^ 63)) = false) (h2 : ¬ ((l.length : Int) > (2 ^ 63 - 1) / k)) (h3 : k.toNat * l.length ≤ 100000) (h4 : ¬ k < 1) (h5 : (k == 1 || l.length == 0) = false) : OpR X (binaryOp .Mult) (rMulG l k) := by
  intro pins s σ H x y v u Q I rx ry h
  obtain ⟨rfl, rfl, q⟩ := h
  obtain ⟨t, rfl⟩ := rx
  obtain ⟨t', rfl⟩ := ry
  have big : 100000 ≤ sizeLine := by decide
  refine PySem.P.mul_str h1 (fun _ _ => by rw [S_len]; exact h2) (fun _ _ => ?_) ?_
  · show decide ((S l).length * k.toNat > sizeLine) = false
    rw [S_len]
    exact decide_eq_false (by rw [Nat.mul_comm]; omega)
  · rw [S_len, if_neg h4, if_neg (by rw [h5]; exact Bool.false_ne_true)]
    have e : (⟨(List.replicate k.toNat (S l).cps).foldl (· ++ ·) #[]⟩ : Str) = S (repL l k.toNat) := by
      refine TL.ext_tl ?_
      show ((List.replicate k.toNat (S l).cps).foldl (· ++ ·) #[]).toList = repL l k.toNat
      rw [rep_list]
      rfl
    rw [e]
    refine ⟨?_, ?_⟩
    · show (S (repL l k.toNat)).length ≤ sizeLine
      rw [S_len, repL_len]
      omega
    · exact ⟨.str _, H, I.tok _, ⟨_, rfl⟩, q⟩
/-- the values that are no texts; none of them stands at p -/
inductive Odd (p C : Addr) (H : Hp) : V → Prop
  | non : Odd p C H .non
  | int (i : Int) : Odd p C H (.int i)
  | bl (b : Bool) : Odd p C H (.bl b)
  | lst {a : Addr} {xs : List V} : a ≠ p → H a = some (.lst xs) → Odd p C H (.ref a)
  | rat {a dx : Addr} {t b : Int} : a ≠ p → H a = some (.ins C dx (flds t b)) → Odd p C H (.ref a)
theorem Odd.but {p C : Addr} {H H' : Hp} {v : V} (h : Odd p C H v) (b : But p H H') : Odd p C H' v := by
  cases h with
  | non => exact .non
  | int i => exact .int i
  | bl c => exact .bl c
  | lst n e => exact .lst n (b _ _ n e)
  | rat n e => exact .rat n (b _ _ n e)
theorem Odd.ty {K : PySem.W.Frag} {mg : Str → Option Value} {p C CI CQ : Addr} {H : Hp} {v : V} (T : RTx K mg C CI CQ) (kS : PySem.W.kitOne K (.ref C) (.type "str") = some false) (h : Odd p C H v) : ∃ t, TyX K H v t ∧ PySem.W.kitOne K t (.type "str") = some false := by
  cases h with
  | non => exact ⟨_, .base .non, kit_ty (by decide +kernel)⟩
  | int i => exact ⟨_, .base (.int i), kit_ty (by decide +kernel)⟩
  | bl b => exact ⟨_, .base (.bl b), kit_ty (by decide +kernel)⟩
  | lst n e => exact ⟨_, .base (.lst e), kit_ty (by decide +kernel)⟩
  | rat n e => exact ⟨_, .base (T.ty e), kS⟩
/-- a value that read is asked for -/
def Ask (p C : Addr) (v : V) (H : Hp) : Prop := (∃ z, v = .str z ∧ OkS 50000 z) ∨ Odd p C H v
theorem Ask.but {p C : Addr} {H H' : Hp} {v : V} (h : Ask p C v H) (b : But p H H') : Ask p C v H' := h.elim (fun x => .inl x) fun o => .inr (o.but b)
def spFar (C : Addr) : Sp := fun vs H Q _ => ∃ p l ns k r, vs = [.ref p] ∧ PenAt H p l ns k r ∧ k ≤ 9000 ∧ Drawn p l ns k 1 H (Ask p C) Q
section
variable {σ : L2.St} {H : Hp} {te ta tb : TE} {v : V} {P R : PV} {x y : Str} {n m : Nat} {D : Ends} {i : Nat} {u : TS} {C CI : Addr} {t d : Int}
theorem evp_val (h : ∀ H1, Val te σ H1 v) (p : ∀ H1, P v H1) : EvP te σ H P := fun H1 g Q q => h H1 _ (q v H1 grow_rfl (p H1))
theorem evp_txt (z : Str) (h : (decide (z.cps.size ≤ 5000) && z.cps.toList.all fun c => decide (c < 128)) = true) : EvP (tC (.str z)) σ H (TxP 5000) := evp_val (fun _ => val_c) fun _ => ⟨z, rfl, oks_of h⟩
theorem evp_mk (d0 : d ≠ 0) (bu : t.natAbs < 2 ^ 4000) (bd : d.natAbs < 2 ^ 4000) : EvP (tMake C (spInit C CI) [] E0 (tCons (tC (.int t)) (tCons (tC (.int d)) tNil))) σ H (RatP C (tp t d) (bt t d)) := fun H1 g Q q => fun x dx nx ndx ne =>
  ⟨x, dx, t, d, rfl, upd_same, fun _ => ⟨bu, bd, rfl, q _ _ (grow_make nx ndx ne) ⟨x, dx, rfl, upd_same⟩⟩, fun z => absurd z d0⟩
end
abbrev ps5 : List PV := [TxP 5000, TxP 5000, TxP 5000, TxP 5000, TxP 5000]
abbrev ps7 : List PV := [TxP 5000, TxP 5000, TxP 5000, TxP 5000, TxP 5000, TxP 5000, TxP 5000]
abbrev ps16 (C : Addr) : List PV := [TxP 5000, TxP 5000, TxP 5000, TxP 5000, TxP 5000, TxP 5000, TxP 5000, TxP 5000, TxP 5000, TxP 5000, TxP 5000, IsP .non, IsP (.int 7), IsP (.bl true), LstP [IsP (.int 1)], RatP C (tp 1 2) (bt 1 2)]
theorem stb5 : StbA ps5 := ⟨stb_tx, stb_tx, stb_tx, stb_tx, stb_tx, trivial⟩
theorem stb7 : StbA ps7 := ⟨stb_tx, stb_tx, stb_tx, stb_tx, stb_tx, stb_tx, stb_tx, trivial⟩
theorem stb16 (C : Addr) : StbA (ps16 C) := ⟨stb_tx, stb_tx, stb_tx, stb_tx, stb_tx, stb_tx, stb_tx, stb_tx, stb_tx, stb_tx, stb_tx, stb_is, stb_is, stb_is, stb_lst ⟨stb_is, trivial⟩, stb_rat, trivial⟩
theorem far_ask {p l C : Addr} {ns : List Int} {k r : Int} {H : Hp} (hP : PenAt H p l ns k r) {P : PV} (h : P ∈ ps5 ++ ps7 ++ ps16 C) {v : V} (hv : P v H) : Ask p C v H := by
  have tx : ∀ {v : V}, TxP 5000 v H → Ask p C v H := fun ⟨z, e, o⟩ => .inl ⟨z, e, o.mono (by decide)⟩
  have all : ∀ P ∈ ps5 ++ ps7 ++ ps16 C, P = TxP 5000 ∨ P = IsP .non ∨ P = IsP (.int 7) ∨ P = IsP (.bl true) ∨ P = LstP [IsP (.int 1)] ∨ P = RatP C (tp 1 2) (bt 1 2) := by
    intro P hP
    rcases List.mem_append.mp hP with h | h
    · rcases List.mem_append.mp h with h | h
      · exact .inl (List.eq_of_mem_replicate (n := 5) h)
      · exact .inl (List.eq_of_mem_replicate (n := 7) h)
    · have h' : P ∈ List.replicate 11 (TxP 5000) ++ [IsP .non, IsP (.int 7), IsP (.bl true), LstP [IsP (.int 1)], RatP C (tp 1 2) (bt 1 2)] := h
      rcases List.mem_append.mp h' with h | h
      · exact .inl (List.eq_of_mem_replicate h)
      · simp only [List.mem_cons, List.not_mem_nil, or_false] at h
        exact .inr h
  rcases all P h with rfl | rfl | rfl | rfl | rfl | rfl
  · exact tx hv
  · rw [show v = _ from hv]; exact .inr .non
  · rw [show v = _ from hv]; exact .inr (.int 7)
  · rw [show v = _ from hv]; exact .inr (.bl true)
  · obtain ⟨a, xs, rfl, e, ap⟩ := hv
    refine .inr (.lst (fun z => ?_) e)
    rw [z, hP.pen] at e
    cases e
    exact nomatch ap.len
  · obtain ⟨a, dx, rfl, e⟩ := hv
    refine .inr (.rat (fun z => ?_) e)
    rw [z, hP.pen] at e
    cases e
section
variable {P : Program} {w : World} {K : PySem.W.Frag} {mg : Str → Option Value} {base : Heap} {f fD fI C CI CQ : Addr} {fd fdD fdI : FuncData}
abbrev nsFar : List Str := ["_law_pen_here", "_law_long_one", "_law_some"]
theorem scFar : FnScope nsFar ["_law_pen_here"] (defScope sFar) := ⟨rfl, rfl, rfl, by decide +kernel, rfl, by decide +kernel, by decide +kernel⟩
def nineL : List Nat := [49, 50, 51, 52, 53, 54, 55, 56, 57]
theorem mul9 {X : Cx} : OpR X (binaryOp .Mult) (rMulG nineL 7) := op_mulG nineL 7 (by decide) (by decide) (by decide) (by decide) (by decide)
theorem mul4000 {X : Cx} : OpR X (binaryOp .Mult) (rMulG [51] 4000) := op_mulG [51] 4000 (by decide) (by decide) (by decide) (by decide) (by decide)
theorem mul3000 {X : Cx} : OpR X (binaryOp .Mult) (rMulG [51] 3000) := op_mulG [51] 3000 (by decide) (by decide) (by decide) (by decide) (by decide)
theorem ok_far (F : Fun K "_law_far" "_law_far" sFar f fd) (T : RTx K mg C CI CQ) (R : RMk P w K mg base C CI fI fdI) (GD : FnOk P w K mg base CX0 1 fD fdD psD spDraw) (DD : At K mg "_law_draw" fD fdD psD) : FnOk P w K mg base CX0 3 f fd ["_law_pen_here"] (spFar C) := by
  refine F.ok scFar (fun vs H Q E h => ?_) (fun cdv A outer s H vs Q E hr h => ?_)
  · obtain ⟨p, l, ns, k, r, rfl, _⟩ := h
    rfl
  · obtain ⟨p, l, ns, k, r, rfl, hP, hk, q⟩ := h
    have nd := scFar.nd
    refine ⟨_, pss_cons (ps_set (i := 1) nd rfl (Or.inl rfl) (pe_op mul9 pe_str pe_int))
      (pss_cons (ps_set (i := 2) nd rfl (Or.inl rfl) (pe_lst (pa_cons (pe_slice sl_str (pv 1) po_none (po_some pe_int)) (pa_cons (pe_slice sl_str (pv 1) po_none (po_some pe_int)) (pa_cons (pe_op op_add_str pe_str (pe_slice sl_str (pv 1) po_none (po_some pe_int))) (pa_cons (pe_op op_add_str pe_str (pe_slice sl_str (pv 1) po_none (po_some pe_int))) (pa_cons (pe_op op_add_str pe_str (pe_slice sl_str (pv 1) po_none (po_some pe_int))) pa_nil)))))))
      (pss_cons (ps_set (i := 2) nd rfl (Or.inl rfl) (pe_op op_cat (pv 2) (pe_lst (pa_cons (pe_op op_add_str pe_str (pe_slice sl_str (pv 1) po_none (po_some pe_int))) (pa_cons (pe_op mul4000 pe_str pe_int) (pa_cons (pe_op op_add_str pe_str (pe_op mul3000 pe_str pe_int)) (pa_cons (pe_op op_add_str (pe_op mul3000 pe_str pe_int) pe_str) (pa_cons pe_str (pa_cons pe_str (pa_cons pe_str pa_nil))))))))))
      (pss_cons (ps_set (i := 2) nd rfl (Or.inl rfl) (pe_op op_cat (pv 2) (pe_lst (pa_cons pe_str (pa_cons pe_str (pa_cons pe_str (pa_cons pe_str (pa_cons pe_str (pa_cons pe_str (pa_cons pe_str (pa_cons pe_str (pa_cons pe_str (pa_cons pe_str (pa_cons pe_str (pa_cons pe_non (pa_cons pe_int (pa_cons pe_bl (pa_cons (pe_lst (pa_cons pe_int pa_nil)) (pa_cons (pe_make (E := E0) R.mkc R.ok (hr.mono (by decide)) (by rfl) T.gR R.b2 .nil passL (pa_cons pe_int (pa_cons pe_int pa_nil))) pa_nil)))))))))))))))))))
      (pss_one (ps_ret (pe_ix (r := rIxL K) ix_list (pv 2) (pe_call GD (hr.mono (by decide)) (by rfl) DD.mg DD.kp DD.b .nil pass0 (pa_cons (pv 0) (pa_cons pe_int pa_nil))) (fun _ _ => rfl))))))), ?_⟩
    show tSeq _ _ _ [some (V.ref p), none, none] H
    refine sA_set (v := .str (S (repL nineL 7))) (fun Q q => ⟨rfl, rfl, q⟩) ?_
    have oL : OkS 63 (S (repL nineL 7)) := repL_ok (by decide) (by decide)
    generalize S (repL nineL 7) = zl at oL ⊢
    have cutv : ∀ {σ : L2.St} {H : Hp} (i : Int), σ[1]? = some (some (.str zl)) → EvP (tSl rSlS (tVar 1) tNoPart (tPart (tC (.int i)))) σ H (TxP 5000) := fun {σ H} i h =>
      evp_val (fun _ => v_to (val_var h) val_c oL (by decide)) fun _ => ⟨_, rfl, (oL.cut none (some i)).mono (by decide)⟩
    have catv : ∀ {σ : L2.St} {H : Hp} (c : Str) (i : Int), OkS 2 c → σ[1]? = some (some (.str zl)) → EvP (tOp (fun x y H Q => ∃ i j, x = V.str i ∧ y = V.str j ∧ i.length + j.length ≤ sizeLine ∧ Q (V.str (i ++ j)) H) (tC (.str c)) (tSl rSlS (tVar 1) tNoPart (tPart (tC (.int i))))) σ H (TxP 5000) := fun {σ H} c i hc h =>
      evp_val (fun _ => v_cat val_c (v_to (val_var h) val_c oL (by decide)) hc (oL.cut none (some i)) (by decide)) fun _ => ⟨_, rfl, (hc.app (oL.cut none (some i))).mono (by decide)⟩
    have oa : OkS 2 (Str.ofString "-") := oks_of (by decide +kernel)
    have ob : OkS 2 (Str.ofString "1/") := oks_of (by decide +kernel)
    have oc : OkS 2 (Str.ofString "/7") := oks_of (by decide +kernel)
    have o4 : OkS 4000 (S (repL [51] 4000)) := repL_ok (by decide) (by decide)
    have o3 : OkS 3000 (S (repL [51] 3000)) := repL_ok (by decide) (by decide)
    refine sq_set (evp_lst (Ps := ps5) (Nat.le_of_ble_eq_true rfl) (EvPs.cons stb_tx (cutv 60 rfl) (EvPs.cons stb_tx (cutv 61 rfl) (EvPs.cons stb_tx (catv _ 60 oa rfl) (EvPs.cons stb_tx (catv _ 61 oa rfl) (EvPs.cons stb_tx (catv _ 60 ob rfl) EvPs.nil))))) stb5) fun v1 H1 g1 p1 => ?_
    have m4 : ∀ {σ : L2.St} {H : Hp}, Val (tOp (rMulG [51] 4000) (tC (.str (Str.ofString "3"))) (tC (.int 4000))) σ H (.str (S (repL [51] 4000))) := fun {σ H} => val_op val_c val_c fun Q q => ⟨rfl, rfl, q⟩
    have m3 : ∀ {σ : L2.St} {H : Hp}, Val (tOp (rMulG [51] 3000) (tC (.str (Str.ofString "3"))) (tC (.int 3000))) σ H (.str (S (repL [51] 3000))) := fun {σ H} => val_op val_c val_c fun Q q => ⟨rfl, rfl, q⟩
    generalize S (repL [51] 4000) = z4 at o4 m4
    generalize S (repL [51] 3000) = z3 at o3 m3
    refine sq_set (evp_cat (Nat.le_of_ble_eq_true rfl) (evp_var rfl p1 (stb_lst stb5)) (evp_lst (Ps := ps7) (Nat.le_of_ble_eq_true rfl) (EvPs.cons stb_tx (catv _ 61 ob rfl) (EvPs.cons stb_tx (evp_val (fun _ => m4) fun _ => ⟨_, rfl, o4.mono (by decide)⟩)
      (EvPs.cons stb_tx (evp_val (fun _ => v_cat val_c m3 ob o3 (by decide)) fun _ => ⟨_, rfl, (ob.app o3).mono (by decide)⟩) (EvPs.cons stb_tx (evp_val (fun _ => v_cat m3 val_c o3 oc (by decide)) fun _ => ⟨_, rfl, (o3.app oc).mono (by decide)⟩)
      (EvPs.cons stb_tx (evp_txt _ (by decide +kernel)) (EvPs.cons stb_tx (evp_txt _ (by decide +kernel)) (EvPs.cons stb_tx (evp_txt _ (by decide +kernel)) EvPs.nil))))))) stb7) stb5 stb7) fun v2 H2 g2 p2 => ?_
    refine sq_set (evp_cat (Nat.le_of_ble_eq_true rfl) (evp_var rfl p2 (stb_lst (stb5.app stb7))) (evp_lst (Ps := ps16 C) (Nat.le_of_ble_eq_true rfl) (EvPs.cons stb_tx (evp_txt _ (by decide +kernel)) (EvPs.cons stb_tx (evp_txt _ (by decide +kernel)) (EvPs.cons stb_tx (evp_txt _ (by decide +kernel)) (EvPs.cons stb_tx (evp_txt _ (by decide +kernel))
      (EvPs.cons stb_tx (evp_txt _ (by decide +kernel)) (EvPs.cons stb_tx (evp_txt _ (by decide +kernel)) (EvPs.cons stb_tx (evp_txt _ (by decide +kernel)) (EvPs.cons stb_tx (evp_txt _ (by decide +kernel)) (EvPs.cons stb_tx (evp_txt _ (by decide +kernel)) (EvPs.cons stb_tx (evp_txt _ (by decide +kernel)) (EvPs.cons stb_tx (evp_txt _ (by decide +kernel))
      (EvPs.cons stb_is evp_c (EvPs.cons stb_is evp_c (EvPs.cons stb_is evp_c (EvPs.cons (stb_lst ⟨stb_is, trivial⟩) (evp_lst (Nat.le_of_ble_eq_true rfl) (EvPs.cons stb_is evp_c EvPs.nil) ⟨stb_is, trivial⟩) (EvPs.cons stb_rat (evp_mk (by decide) (by decide) (by decide)) EvPs.nil)))))))))))))))) (stb16 C)) (stb5.app stb7) (stb16 C)) fun v3 H3 g3 p3 => ?_
    obtain ⟨z, xs, rfl, hz, ap⟩ := p3
    have hP3 := ((hP.grow g1).grow g2).grow g3
    have lx : xs.length = 28 := ap.len
    have nz : z ≠ p := fun e => by
      rw [e, hP3.pen] at hz
      cases hz
      exact absurd lx (by simp)
    refine ⟨_, rfl, _, rfl, p, l, ns, k, r, 28, rfl, hP3, by omega, by decide, by decide, fun d k1 r1 H4 a0 a1 ak B4 P4 => ?_⟩
    obtain ⟨j, rfl⟩ : ∃ j : Nat, d = (j : Int) := ⟨d.toNat, by omega⟩
    have hj : j < (ps5 ++ ps7 ++ ps16 C).length := by show j < 28; omega
    obtain ⟨v, hv, pv⟩ := ap.at (List.getElem?_eq_getElem hj)
    refine ⟨z, _, _, v, rfl, rfl, SqL.of (B4 z _ nz hz), atI_nat hv, ?_⟩
    exact q _ _ _ _ (by omega) ((But.grow ((g1.tr g2).tr g3)).trans B4) P4 ((far_ask hP3 (List.getElem_mem hj) pv).but B4)
end
end B3
set_option maxRecDepth 100000
set_option maxHeartbeats 4000000
set_option exponentiation.threshold 10000
namespace TX
open PySem PySem.NumText RX SX
open TL (numL spl par)
theorem lawR_small {l : List Nat} {t b : Int} (h : lawR l = some (t, b)) : t.natAbs < 2 ^ 1900 ∧ b.natAbs < 2 ^ 1900 := by
  have up : ∀ {n : Nat}, n < 2 ^ 200 → n < 2 ^ 1900 := fun h => Nat.lt_of_lt_of_le h (Nat.pow_le_pow_right (by decide) (by decide))
  unfold lawR at h
  simp only at h
  split at h
  · cases h
  · rename_i c1
    simp only [Bool.or_eq_true, Bool.not_eq_true', not_or] at c1
    have d0 := whole_digs (by simpa using c1.1.2 : whole (stripm ((spl [47] 0 [] l).headD [])) = true)
    have s0 := sval_small d0
    split at h
    · cases h
      exact ⟨up s0, by decide⟩
    · split at h
      · cases h
      · rename_i c2
        simp only [Bool.or_eq_true, Bool.not_eq_true', not_or] at c2
        have d1 := whole_digs (by simpa using c2.1 : whole ((spl [47] 0 [] l).getD 1 []) = true)
        have s1 := val_small d1
        split at h
        · cases h
        · cases h
          exact ⟨up s0, by rw [Int.natAbs_natCast]; exact up s1⟩
theorem int_strip (i : Int) : stripm (intL i) = numL i.natAbs := by
  unfold intL
  by_cases h : i < 0
  · rw [if_pos h]
    rfl
  · rw [if_neg h]
    cases e : numL i.natAbs with
    | nil => rfl
    | cons c r =>
      show (if c = 45 then r else c :: r) = c :: r
      refine if_neg fun z => ?_
      have := TL.numL_digits i.natAbs c (by rw [e]; exact List.mem_cons_self)
      omega
theorem digs_num {n : Nat} (h : n ≤ 1000000) : digs (numL n) = true := by
  have l := TL.numL_len (n := n) (k := 7) (by decide) (by omega)
  unfold digs
  rw [Bool.and_eq_true, Bool.and_eq_true, decide_eq_true_eq, decide_eq_true_eq]
  refine ⟨⟨?_, by omega⟩, allD_iff.mpr (TL.numL_digits n)⟩
  rcases e : numL n with _ | ⟨a, r⟩
  · exact absurd e (TL.numL_ne n)
  · simp
theorem prog_rat {t b : Int} (pos : 0 < b) (cop : Nat.gcd t.natAbs b.natAbs = 1) (ht : t.natAbs ≤ 1000000) (hb : b.natAbs ≤ 1000000) : progR (ratL t b) = some (t, b) := by
  have dt : digs (stripm (intL t)) = true := by rw [int_strip]; exact digs_num ht
  have lw := low_same pos cop
  by_cases h1 : b = 1
  · subst h1
    have e : ratL t 1 = intL t := if_pos rfl
    have ec : cut (intL t) = (intL t, false, []) := by
      unfold cut
      rw [TL.par_none1 int_free]
    rw [e]
    unfold progR
    rw [ec]
    show (if (!digs (stripm (intL t)) || !true) = true then none else if ratL (tp (sval (intL t)) 1) (bt (sval (intL t)) 1) = intL t then some (tp (sval (intL t)) 1, bt (sval (intL t)) 1) else none) = some (t, 1)
    rw [dt, sval_int, tp_one, bt_one, e]
    refine (if_neg (by decide)).trans (if_pos rfl)
  · have e : ratL t b = intL t ++ 47 :: intL b := if_neg h1
    have eb : intL b = numL b.natAbs := if_neg (by omega)
    have ec : cut (intL t ++ 47 :: intL b) = (intL t, true, intL b) := by
      unfold cut
      rw [show intL t ++ 47 :: intL b = intL t ++ ([47] ++ intL b) from rfl, TL.par_part1 int_free, List.nil_append]
    have ev : ((val (intL b) : Nat) : Int) = b := by
      rw [eb, show val (numL b.natAbs) = b.natAbs from TL.numL_val _]
      omega
    have db : digs (intL b) = true := by rw [eb]; exact digs_num hb
    rw [e]
    unfold progR
    rw [ec]
    show (if (!digs (stripm (intL t)) || !digs (intL b)) = true then none else if ((val (intL b) : Nat) : Int) = 0 then none else if ratL (tp (sval (intL t)) (val (intL b) : Nat)) (bt (sval (intL t)) (val (intL b) : Nat)) = intL t ++ 47 :: intL b then some (tp (sval (intL t)) (val (intL b) : Nat), bt (sval (intL t)) (val (intL b) : Nat)) else none) = some (t, b)
    rw [dt, db, sval_int, ev, lw.1, lw.2, e]
    refine (if_neg (by decide)).trans ((if_neg (by omega)).trans (if_pos rfl))
theorem oks_int {i : Int} (h : i.natAbs ≤ 1000000) : OkS 8 (S (intL i)) := by
  refine Ok.s ⟨?_, fun c hc => ?_⟩
  · have l := TL.numL_len (n := i.natAbs) (k := 7) (by decide) (by omega)
    unfold intL
    split
    · rw [List.length_cons]; omega
    · omega
  · unfold intL at hc
    split at hc
    · rcases List.mem_cons.mp hc with z | z
      · omega
      · have := TL.numL_digits _ c z
        omega
    · have := TL.numL_digits _ c hc
      omega
theorem oks_rat {t b : Int} (ht : t.natAbs ≤ 1000000) (hb : b.natAbs ≤ 1000000) : OkS 20 (S (ratL t b)) := by
  unfold ratL
  split
  · exact (oks_int ht).mono (by decide)
  · have e : S (intL t ++ 47 :: intL b) = S (intL t) ++ (S [47] ++ S (intL b)) := by rw [S_cat, S_cat]; rfl
    rw [e]
    exact ((oks_int ht).app ((show OkS 1 (S [47]) from oks_of (by decide)).app (oks_int hb))).mono (by decide)
end TX
namespace B3
open PySem PySem.Spec PyProof.Rows L2 RX LP SX TX XO
/-- what repr asks of data -/
structure Sh (d : PyData) : Prop where
  s : d.showable = true
  h : d.depth ≤ 64
  l : d.shown.length ≤ sizeLine
theorem sh_tup {i j : Int} (hi : i.natAbs < 2 ^ 1900) (hj : j.natAbs < 2 ^ 1900) : Sh (.tuple [.int i, .int j]) := by
  have l1 := log_of hi
  have l2 := log_of hj
  have n1 := int_text_len_1921 l1
  have n2 := int_text_len_1921 l2
  refine ⟨?_, (by show (max 0 (max 0 0)) + 1 ≤ 64; decide), ?_⟩
  · show (decide (i.natAbs.log2 < 1920) && (decide (j.natAbs.log2 < 1920) && true)) = true
    rw [decide_eq_true l1, decide_eq_true l2]
    rfl
  · show (tupleText [PySem.Str.ofString (toString i), PySem.Str.ofString (toString j)]).length ≤ sizeLine
    generalize PySem.Str.ofString (toString i) = x at *
    generalize PySem.Str.ofString (toString j) = y at *
    have z : (tupleText [x, y]).length = 1 + (x.length + 2 + y.length) + 1 := by
      show ((PySem.Str.ofString "(") ++ (x ++ (PySem.Str.ofString ", ") ++ y) ++ (PySem.Str.ofString ")")).length = _
      rw [strLen_append, strLen_append, strLen_append, strLen_append]
      rfl
    rw [z]
    have : 5000 ≤ sizeLine := by decide
    omega
def datO : Option (Int × Int) → PyData
  | none => .none
  | some (t, b) => .tuple [.int t, .int b]
theorem sh_datO {l : List Nat} : Sh (datO (lawR l)) := by
  cases e : lawR l with
  | none => exact ⟨rfl, by decide, by decide⟩
  | some p =>
    obtain ⟨t, b⟩ := p
    obtain ⟨h1, h2⟩ := lawR_small e
    exact sh_tup h1 h2
theorem rd_res {o : Option (Int × Int)} {v : V} {H : Hp} (h : ResP o v H) : RD H v (datO o) := by
  cases o with
  | none =>
    rw [show v = V.non from h]
    exact .non
  | some p =>
    obtain ⟨t, b⟩ := p
    obtain ⟨a, rfl, e⟩ := h
    exact .tup e (.cons (.int _) (.cons (.int _) .nil))
def askR : V → Option (Int × Int)
  | .str z => lawR z.cps.toList
  | _ => none
theorem sh_none : Sh (datO none) := ⟨rfl, by decide, by decide⟩
theorem sh_ask (v : V) : Sh (datO (askR v)) := by
  cases v with
  | str z => exact sh_datO
  | _ => exact sh_none
section
variable {K : PySem.W.Frag} {mg : Str → Option Value} {p C CI CQ : Addr} {σ : L2.St} {H : Hp} {ta tb : TE} {v : V} {i : Nat}
theorem Ask.grow {H H' : Hp} (h : Ask p C v H) (g : Grow H H') : Ask p C v H' := h.but (But.grow g)
theorem evp_ask (T : RTx K mg C CI CQ) (kS : PySem.W.kitOne K (.ref C) (.type "str") = some false) (h : σ[i]? = some (some v)) (a : Ask p C v H) : EvP (tCall (spLRead K) [] E0 (tCons (tVar i) tNil)) σ H (ResP (askR v)) := by
  intro H1 g Q q
  refine ⟨v, h, v, rfl, ?_⟩
  rcases a.grow g with ⟨z, rfl, oz⟩ | o
  · refine .inl ⟨z.cps.toList, by rw [show S z.cps.toList = z from S_tl z], oz.ok, fun v' H2 g2 r => q v' H2 g2 r⟩
  · obtain ⟨t, ty, kt⟩ := o.ty T kS
    refine .inr ⟨t, ty, kt, q _ _ grow_rfl ?_⟩
    cases o <;> rfl
theorem ne_ask (ha : EvP ta σ H (ResP (askR v))) (hb : EvP tb σ H (ResP (askR v))) : EvB (tTest (tOp rNe (tCB XO.rRepr (tCons ta tNil)) (tCB XO.rRepr (tCons tb tNil)))) σ H false := fun H1 g Q q => by
  have s := sh_ask v
  exact ha H1 g _ fun x H2 g2 rx => ⟨x, _, rfl, rd_res rx, s.s, s.h, s.l, hb H2 (g.tr g2) _ fun y H3 g3 ry => ⟨y, _, rfl, rd_res ry, s.s, s.h, s.l, rfl, false, by rw [decide_eq_true rfl]; rfl, q H3 (g2.tr g3)⟩⟩
end
end B3
set_option maxRecDepth 100000
set_option maxHeartbeats 4000000
set_option exponentiation.threshold 10000
namespace LP
open PySem PySem.Spec PyProof.Rows L2
section
variable {σ : L2.St} {H : Hp} {tl : TA} {t1 u : TS} {D : Ends} {i : Nat}
/-- for x in range(n), n told by the arguments; the body is read for any next turn -/
theorem sq_for {n : Nat} (Pv : Nat → L2.St → Hp → Prop) (ha : EvPs tl σ H [IsP (.int (n : Int))]) (big : n ≤ 1000000) (h0 : ∀ H', Grow H H' → Pv 0 σ H')
    (hs : ∀ k σ' H', k < n → Pv k σ' H' → ∀ D' : Ends, (∀ σ2 H2, Pv (k + 1) σ2 H2 → D'.nx σ2 H2) → t1 D' (σ'.set i (some (.int (k : Int)))) H') (hd : ∀ σ' H', Pv n σ' H' → u D σ' H') :
    tSeq (tFor (iRng1 tl) (gName i) t1) u D σ H := ha H grow_rfl _ fun vs H1 g p => by
  match vs, p with
  | [x], ⟨e, _⟩ =>
    cases (show x = .int (n : Int) from e)
    refine ⟨(n : Int), rfl, by omega, by omega, ?_⟩
    rw [Int.toNat_natCast]
    refine for_range (lo := 0) (n := n) Pv (h0 H1 g) (fun k σ' H' hk pv => ?_) hd
    have z := hs k σ' H' hk pv { nx := Pv (k + 1), ct := Pv (k + 1), bk := u D, rt := D.rt } (fun _ _ x => x)
    rw [show (0 : Int) + (k : Int) = (k : Int) by omega]
    exact z
theorem ls_no {c : TT} (h : EvB c σ H false) (q : ∀ H', Grow H H' → D.nx σ H') : tIfS c t1 tNext D σ H := h H grow_rfl _ fun H2 g => iteF (q H2 g)
theorem sA_asgR {te : TE} {g : TG} (h : te σ H fun v H1 => g v σ H1 fun σ' H' => u D σ' H') : tSeq (tAsg te g) u D σ H := h
theorem sq_app {K : PySem.W.Frag} {te : TE} {l : Addr} {xs0 : List V} (h : σ[i]? = some (some (.ref l))) (hy : H l = some (.lst xs0)) (hh : te σ H fun x H1 => rAppend (.ref l) [x] H1 fun _ H' => u D σ H') : tSeq (tDrop (tBM K "list" rAppend (tVar i) (tCons te tNil))) u D σ H :=
  ⟨.ref l, h, .inl ⟨rfl, _, SqL.of hy⟩, hh⟩
/-- for x in a list that the body lets stand; the body is read for any next turn -/
theorem sq_forL {K : PySem.W.Frag} {j : Nat} {a : Addr} {xs : List V} (Pv : Nat → L2.St → Hp → Prop) (h : σ[j]? = some (some (.ref a))) (hx : SqL K H a xs) (h0 : Pv 0 σ H) (hl : ∀ k σ' H', k ≤ xs.length → Pv k σ' H' → SqL K H' a xs)
    (hs : ∀ k x σ' H', xs[k]? = some x → Pv k σ' H' → ∀ D' : Ends, (∀ σ2 H2, Pv (k + 1) σ2 H2 → D'.nx σ2 H2) → t1 D' (σ'.set i (some x)) H') (hd : ∀ σ' H', Pv xs.length σ' H' → u D σ' H') :
    tSeq (tFor (iList K (tVar j)) (gName i) t1) u D σ H := by
  refine ⟨_, h, a, rfl, ⟨_, hx⟩, ?_⟩
  exact for_list (xs := xs) Pv h0 hl (fun k x σ' H' e pv => hs k x σ' H' e pv { nx := Pv (k + 1), ct := Pv (k + 1), bk := u D, rt := D.rt } (fun _ _ x => x)) hd
end
end LP
namespace B3
open PySem PySem.Spec PyProof.Rows L2 RX LP SX TX XO
abbrev sLaw : Stmt := top 22
abbrev nsLaw : List Str := ["_law_script", "_law_pen_here", "_law_turn", "_law_top", "_law_bottom", "_law_number", "_law_due", "_law_values", "_law_value"]
theorem scLaw : FnScope nsLaw ["_law_script"] (defScope sLaw) := ⟨rfl, rfl, rfl, by decide +kernel, rfl, by decide +kernel, by decide +kernel⟩
def spLaw (K : PySem.W.Frag) : Sp := fun vs H Q _ => ∃ (a : Addr) (ns : List Int), vs = [.ref a] ∧ SqL K H a (ns.map V.int) ∧ ns.length ≤ 63 ∧ ∀ H', Q (.bl true) H'
/-- one positional value and one by its name -/
def g11 {α : Type} : List α → List α → List α
  | [a], [b] => [a, b]
  | _, _ => []
section
variable {σ : L2.St} {H : Hp} {te : TE} {i : Int} {n : Nat}
theorem v_str (h : Val te σ H (.int i)) (s : i.natAbs ≤ 1000000) : Val (tCB (fun xs H Q => ∃ i, xs = [V.int i] ∧ i.natAbs.log2 < 1920 ∧ Q (V.str (Str.ofString (toString i))) H) (tCons te tNil)) σ H (.str (S (intL i))) := fun Q q =>
  h _ ⟨i, rfl, log_of (Nat.lt_of_le_of_lt s (by decide)), by rw [int_txt]; exact q⟩
end
section
variable {P : Program} {w : World} {K : PySem.W.Frag} {mg : Str → Option Value} {base : Heap} {C CI CQ p g : Addr} {mc : Value} {fdR : FuncData}
theorem ok_law {f fI fS fP fQ fE fA fX fB fF fT fL : Addr} {fd fdI fdS fdP fdQ fdE fdA fdX fdB fdF fdT fdL : FuncData} (F : Fun K "law" "law" sLaw f fd) (T : RTx K mg C CI CQ) (kS : PySem.W.kitOne K (.ref C) (.type "str") = some false) (B : Bl mg)
    (R : RMk P w K mg base C CI fI fdI) (RD : RdF P w K mg base C CI mc p g fdR) (kR : KBinds K fdR ["cls", "text"] ["text"] g11 g11)
    (GS : FnOk P w K mg base CX0 1 fS fdS ["self"] (spTxt C ratL)) (OS : Own K C fS "__str__") (bS : Binds K fdS ["self"] [])
    (GP : FnOk P w K mg base CX0 1 fP fdP ["self"] (spTxt C reprL)) (OP : Own K C fP "__repr__") (bP : Binds K fdP ["self"] [])
    (GQ : FnOk P w K mg base CX0 1 fQ fdQ ["self", "other"] (spEq K C)) (OQ : Own K C fQ "__eq__") (bQ : Binds K fdQ ["self", "other"] []) (NE : PySem.W.findIn K (.ref C) "__ne__" = some (some (.builtin "object.__ne__"))) (HO : PySem.W.mroIn K C (.type "object") = some true) (nf : PySem.W.notFirst K C (.ref C) = true)
    (GE : FnOk P w K mg base CX0 1 fE fdE ["_law_script"] (spPen K)) (DE : At K mg "_law_pen" fE fdE ["_law_script"])
    (GA : FnOk P w K mg base CX0 2 fA fdA ["_law_pen_here"] spParts) (DA : At K mg "_law_parts" fA fdA ["_law_pen_here"])
    (GX : FnOk P w K mg base CX0 1 fX fdX ["_law_top", "_law_bottom"] spText) (DX : At K mg "_law_text" fX fdX ["_law_top", "_law_bottom"])
    (GB : FnOk P w K mg base CX0 2 fB fdB ["_law_pen_here", "_law_page"] spBent) (DB : At K mg "_law_bent" fB fdB ["_law_pen_here", "_law_page"])
    (GF : FnOk P w K mg base CX0 3 fF fdF ["_law_pen_here"] (spFar C)) (DF : At K mg "_law_far" fF fdF ["_law_pen_here"])
    (GT : FnOk P w K mg base CX0 5 fT fdT ["_law_value"] (spLRead K)) (DT : At K mg "_law_told" fT fdT ["_law_value"])
    (GL : FnOk P w K mg base CX0 2 fL fdL ["_law_value"] (spLRead K)) (DL : At K mg "_law_read" fL fdL ["_law_value"]) : FnG P w K mg base 6 f fd ["_law_script"] (spLaw K) := by
  refine fnG_of F scLaw (fun vs H Q E h => ?_) (fun cdv A outer s H vs Q E hr hg h => ?_)
  · obtain ⟨a, ns, rfl, _⟩ := h
    rfl
  · obtain ⟨a, ns, rfl, hS, hl, q⟩ := h
    have nd := scLaw.nd
    have hu : (A.deeper (envOfC (PySem.Str.ofString "law") (defScope sLaw) s.heap.objs.size f cdv)).units + 65 < cLine := by
      have := hr.un
      omega
    refine ⟨_, pss_cons (ps_set (i := 1) nd rfl (Or.inl rfl) (pe_call GE (hr.mono (by decide)) (by rfl) DE.mg DE.kp DE.b .nil pass0 (pa_cons (pv 0) pa_nil)))
      (pss_cons (ps_for PassesOwn.never rfl (pi_range1 (by rfl) B.range (pa_cons pe_int pa_nil)) (pg_name (i := 2) nd rfl (Or.inl rfl)) (pss_cons (ps_asg (pe_call GA (hr.mono (by decide)) (by rfl) DA.mg DA.kp DA.b .nil pass0 (pa_cons (pv 1) pa_nil)) (pg_tup (by rfl) (pgs_cons (pg_name (i := 3) nd rfl (Or.inl rfl)) (pgs_cons (pg_name (i := 4) nd rfl (Or.inl rfl)) pgs_nil))))
      (pss_cons (ps_par (i := 5) (j := 6) (by rfl) nd rfl rfl (by decide) rfl rfl (pa_cons (pe_make (E := E0) R.mkc R.ok (hr.mono (by decide)) (by rfl) T.gR R.b2 .nil passL (pa_cons (pv 3) (pa_cons (pv 4) pa_nil))) (pa_cons (pe_call GX (hr.mono (by decide)) (by rfl) DX.mg DX.kp DX.b .nil pass0 (pa_cons (pv 3) (pa_cons (pv 4) pa_nil))) pa_nil)) (by rfl))
      (pss_cons (ps_if (PW.pt (pw_or (pt_cmpR op_ne (pe_callTy (call_strO GS OS (hr.mono (by decide)) bS (E := E0) pass0) (by rfl) B.str (by decide +kernel) (pa_cons (pv 5) pa_nil)) (pv 6) (nomark _)) (pw_or1 (pt_cmpR op_ne (pe_callB (call_reprO GP OP (hr.mono (by decide)) bP (E := E0) pass0) (by rfl) B.repr (by decide +kernel) (pa_cons (pv 5) pa_nil)) (pe_op op_add_str (pe_op op_add_str (pe_op op_add_str (pe_op op_add_str pe_str (pe_callTy call_str_int (by rfl) B.str (by decide +kernel) (pa_cons (pv 3) pa_nil))) pe_str) (pe_callTy call_str_int (by rfl) B.str (by decide +kernel) (pa_cons (pv 4) pa_nil))) pe_str) (nomark _))))) (pss_one (ps_ret pe_bl)) pss_nil)
      (pss_cons (ps_set (i := 7) nd rfl (Or.inl rfl) (pe_lst (pa_cons (pv 6) (pa_cons (pe_call GB (hr.mono (by decide)) (by rfl) DB.mg DB.kp DB.b .nil pass0 (pa_cons (pv 1) (pa_cons (pv 6) pa_nil))) (pa_cons (pe_call GF (hr.mono (by decide)) (by rfl) DF.mg DF.kp DF.b .nil pass0 (pa_cons (pv 1) pa_nil)) pa_nil)))))
      (pss_cons (ps_expr (pe_bm PySem.F.plainAttrs_list PySem.F.slot_list_append PySem.F.type_list_append mt_append (pv 7) (pa_cons (pe_call GB (hr.mono (by decide)) (by rfl) DB.mg DB.kp DB.b .nil pass0 (pa_cons (pv 1) (pa_cons (pe_ix (r := rIxL K) ix_list (pv 7) pe_int (fun _ _ => rfl)) pa_nil))) pa_nil)))
      (pss_cons (ps_for PassesOwn.never rfl (pi_list (pv 7)) (pg_name (i := 8) nd rfl (Or.inl rfl)) (pss_one (ps_if (pt_cmpR op_ne (pe_callB (call_repr hg hu) (by rfl) B.repr (by decide +kernel) (pa_cons (pe_call GT hr (by rfl) DT.mg DT.kp DT.b .nil pass0 (pa_cons (pv 8) pa_nil)) pa_nil)) (pe_callB (call_repr hg hu) (by rfl) B.repr (by decide +kernel) (pa_cons (pe_call GL (hr.mono (by decide)) (by rfl) DL.mg DL.kp DL.b .nil pass0 (pa_cons (pv 8) pa_nil)) pa_nil)) (nomark _)) (pss_one (ps_ret pe_bl)) pss_nil)))
      (pss_one (ps_if (PW.pt (pw_or (pt_cmpR (op_neO GQ OQ NE HO (hr.mono (by decide)) bQ (E := E0) pass0) (pe_cmethK (E := E0) (pe_glob (v := .ref C) (by rfl) T.gR rfl) RD.rd RD.cm RD.ok (hr.mono (by decide)) kR passL (pk_cons (pv 6) pk_nil)) (pv 5) (nomark _)) (pw_or1 (pt_cmpR op_ne (pe_callTy (call_strO GS OS (hr.mono (by decide)) bS (E := E0) pass0) (by rfl) B.str (by decide +kernel) (pa_cons (pv 5) pa_nil)) (pv 6) (nomark _))))) (pss_one (ps_ret pe_bl)) pss_nil)))))))))
      (pss_one (ps_ret pe_bl))), ?_⟩
    show tSeq _ _ _ [some (V.ref a), none, none, none, none, none, none, none, none] H
    refine ⟨_, rfl, a, ns, rfl, hS, hl, fun p l H1 hp0 ke P1 => ?_⟩
    show tSeq _ _ _ [some (V.ref a), some (V.ref p), none, none, none, none, none, none, none] H1
    refine sq_for (n := 8) (fun i σ H' => ∃ (x2 x3 x4 x5 x6 x7 x8 : Option V) (k r : Int), σ = [some (V.ref a), some (V.ref p), x2, x3, x4, x5, x6, x7, x8] ∧ PenAt H' p l ns k r ∧ k ≤ 20 * (i : Int))
      (EvPs.cons stb_is evp_c EvPs.nil) (by decide) (fun H' g => ⟨_, _, _, _, _, _, _, 0, 0, rfl, P1.grow g, by decide⟩) ?_ ?_
    · rintro i σ H2 hi ⟨x2, x3, x4, x5, x6, x7, x8, k, r, rfl, Q2, hk⟩ D' hD
      have hi' : (i : Int) < 8 := by omega
      show tSeq _ _ _ [some (V.ref a), some (V.ref p), some (V.int (i : Int)), x3, x4, x5, x6, x7, x8] H2
      refine sA_asgR ?_
      refine ⟨_, rfl, p, l, ns, k, r, rfl, Q2, by omega, fun v k1 r1 H3 hk1 B3 Q3 ⟨tt, t, b, ev, ntp, htt, lw⟩ => ?_⟩
      subst ev
      refine ⟨tt, _, rfl, SqT.of htt, rfl, _, _, rfl, _, _, rfl, rfl, ?_⟩
      have same := low_same lw.pos lw.cop
      have bne : b ≠ 0 := by have := lw.pos; omega
      have bb' : b.natAbs ≤ 1000000 := Nat.le_trans lw.bb (by decide)
      have c4 : ∀ {i : Int}, i.natAbs ≤ 1000000 → i.natAbs < 2 ^ 4000 := fun z => Nat.lt_of_le_of_lt z (by decide)
      have c9 : ∀ {i : Int}, i.natAbs ≤ 1000000 → i.natAbs < 2 ^ 1900 := fun z => Nat.lt_of_le_of_lt z (by decide)
      show tSeq _ _ _ [some (V.ref a), some (V.ref p), some (V.int (i : Int)), some (V.int t), some (V.int b), x5, x6, x7, x8] H3
      refine sq_par ?_
      refine ⟨_, rfl, _, rfl, fun x dx nx ndx ne => ⟨x, dx, t, b, rfl, upd_same, fun _ => ⟨c4 lw.bt, c4 bb', rfl, ?_⟩, fun z => absurd z bne⟩⟩
      rw [same.1, same.2]
      have g5 : Grow H3 (upd (upd (upd H3 dx (.own x)) x (.ins C dx [])) x (.ins C dx (flds t b))) := grow_make nx ndx ne
      have hA : (upd (upd (upd H3 dx (.own x)) x (.ins C dx [])) x (.ins C dx (flds t b))) x = some (.ins C dx (flds t b)) := upd_same
      generalize upd (upd (upd H3 dx (.own x)) x (.ins C dx [])) x (.ins C dx (flds t b)) = H5 at g5 hA ⊢
      refine ⟨_, rfl, _, rfl, t, b, rfl, c9 lw.bt, c9 bb', _, _, rfl, ?_⟩
      have Q5 := Q3.grow g5
      have od := oks_rat lw.bt bb'
      show tSeq _ _ _ [some (V.ref a), some (V.ref p), some (V.int (i : Int)), some (V.int t), some (V.int b), some (V.ref x), some (V.str (S (ratL t b))), x7, x8] H5
      have vstr : ∀ {σ : L2.St} {H' : Hp}, σ[5]? = some (some (V.ref x)) → H' x = some (.ins C dx (flds t b)) → Val (tCB (rTxtO C (spTxt C ratL) E0) (tCons (tVar 5) tNil)) σ H' (.str (S (ratL t b))) := fun {σ H'} h e Q q =>
        ⟨_, h, x, dx, _, rfl, e, x, dx, t, b, rfl, e, c9 lw.bt, c9 bb', _, rfl, q⟩
      have vrep : ∀ {σ : L2.St} {H' : Hp}, σ[5]? = some (some (V.ref x)) → H' x = some (.ins C dx (flds t b)) → Val (tCB (rTxtO C (spTxt C reprL) E0) (tCons (tVar 5) tNil)) σ H' (.str (S (reprL t b))) := fun {σ H'} h e Q q =>
        ⟨_, h, x, dx, _, rfl, e, x, dx, t, b, rfl, e, c9 lw.bt, c9 bb', _, rfl, q⟩
      have eR : (((Str.ofString "Ratio(" ++ S (intL t)) ++ Str.ofString ", ") ++ S (intL b)) ++ Str.ofString ")" = S (reprL t b) := by
        show (((S [82, 97, 116, 105, 111, 40] ++ S (intL t)) ++ S [44, 32]) ++ S (intL b)) ++ S [41] = _
        rw [S_cat, S_cat, S_cat, S_cat]
        rfl
      have k1' : OkS 6 (Str.ofString "Ratio(") := oks_of (by decide +kernel)
      have k2' : OkS 2 (Str.ofString ", ") := oks_of (by decide +kernel)
      have k3' : OkS 1 (Str.ofString ")") := oks_of (by decide +kernel)
      have it := oks_int lw.bt
      have ib := oks_int bb'
      refine sA_no (ans_or (ans_ne (b := false) (vstr rfl hA) (val_var rfl) rfl (by rw [decide_eq_true rfl]; rfl)) (ans_ne (b := false) (vrep rfl hA)
        (v_cat (v_cat (v_cat (v_cat val_c (v_str (val_var rfl) lw.bt) k1' it (by decide)) val_c (k1'.app it) k2' (by decide)) (v_str (val_var rfl) bb') ((k1'.app it).app k2') ib (by decide)) val_c (((k1'.app it).app k2').app ib) k3' (by decide)) rfl (by rw [eR, decide_eq_true rfl]; rfl))) ?_
      refine sA_setR ?_
      refine ⟨_, rfl, _, rfl, _, rfl, p, l, ns, k1, r1, 20, S (ratL t b), rfl, Q5, by omega, od, by decide, fun v1 k2 r2 H6 hk2 B6 Q6 ⟨z1, ez1, oz1⟩ => ?_⟩
      subst ez1
      refine ⟨_, rfl, p, l, ns, k2, r2, rfl, Q6, by omega, fun v2 k3 r3 H7 hk3 B7 Q7 ask2 => ⟨(by show 3 ≤ sizeLine; decide), fun z hz => ?_⟩⟩
      have nzp : z ≠ p := (ne_of_none Q7.pen hz).symm
      have nzl : z ≠ l := (ne_of_none Q7.lst hz).symm
      have nxp : x ≠ p := fun e => by
        rw [e, Q5.pen] at hA
        cases hA
      have hA7 := B7 x _ nxp (B6 x _ nxp hA)
      have nxz : x ≠ z := ne_of_none hA7 hz
      have Q8 := Q7.new (o := .lst [.str (S (ratL t b)), .str z1, v2]) hz
      have hZ8 : (upd H7 z (.lst [.str (S (ratL t b)), .str z1, v2])) z = some (.lst [.str (S (ratL t b)), .str z1, v2]) := upd_same
      have g8 : Grow H7 (upd H7 z (.lst [.str (S (ratL t b)), .str z1, v2])) := grow_new hz
      show tSeq _ _ _ [some (V.ref a), some (V.ref p), some (V.int (i : Int)), some (V.int t), some (V.int b), some (V.ref x), some (V.str (S (ratL t b))), some (V.ref z), x8] _
      generalize upd H7 z (.lst [.str (S (ratL t b)), .str z1, v2]) = H8 at Q8 hZ8 g8 ⊢
      refine sq_app rfl hZ8 ?_
      refine ⟨_, rfl, _, rfl, z, _, 1, _, rfl, rfl, SqL.of hZ8, rfl, p, l, ns, k3, r3, 42, z1, rfl, Q8, by omega, oz1, by decide, fun v3 k4 r4 H9 hk4 B9 Q9 ⟨z3, ez3, oz3⟩ => ?_⟩
      subst ez3
      have hZ9 := B9 z _ nzp hZ8
      refine ⟨z, _, _, rfl, rfl, hZ9, (by show 3 < sizeLine; decide), ?_⟩
      show tSeq _ _ _ [some (V.ref a), some (V.ref p), some (V.int (i : Int)), some (V.int t), some (V.int b), some (V.ref x), some (V.str (S (ratL t b))), some (V.ref z), x8] (upd H9 z (.lst [.str (S (ratL t b)), .str z1, v2, .str z3]))
      have hA9 := B9 x _ nxp (g8 _ _ hA7)
      have hA10 : (upd H9 z (.lst [.str (S (ratL t b)), .str z1, v2, .str z3])) x = some (.ins C dx (flds t b)) := by rw [upd_ne nxz]; exact hA9
      have hZ10 : (upd H9 z (.lst [.str (S (ratL t b)), .str z1, v2, .str z3])) z = some (.lst [.str (S (ratL t b)), .str z1, v2, .str z3]) := upd_same
      have Q10 : PenAt (upd H9 z (.lst [.str (S (ratL t b)), .str z1, v2, .str z3])) p l ns k4 r4 := ⟨by rw [upd_ne nzp.symm]; exact Q9.pen, by rw [upd_ne nzl.symm]; exact Q9.lst, Q9.ne, Q9.len, Q9.k0⟩
      have ask10 : Ask p C v2 (upd H9 z (.lst [.str (S (ratL t b)), .str z1, v2, .str z3])) := by
        have keep : ∀ a o, a ≠ p → H7 a = some o → (upd H9 z (.lst [.str (S (ratL t b)), .str z1, v2, .str z3])) a = some o := fun a o n e => by
          rw [upd_ne (ne_of_none e hz)]
          exact B9 a o n (g8 _ _ e)
        rcases ask2 with h | h
        · exact .inl h
        · cases h with
          | non => exact .inr .non
          | int i => exact .inr (.int i)
          | bl c => exact .inr (.bl c)
          | lst n e => exact .inr (.lst n (keep _ _ n e))
          | rat n e => exact .inr (.rat n (keep _ _ n e))
      generalize upd H9 z (.lst [.str (S (ratL t b)), .str z1, v2, .str z3]) = H10 at hA10 hZ10 Q10 ask10 ⊢
      have all : ∀ (m : Nat) (y : V), [V.str (S (ratL t b)), .str z1, v2, .str z3][m]? = some y → Ask p C y H10 := by
        intro m y e
        match m, e with
        | 0, e => cases e; exact .inl ⟨_, rfl, od.mono (by decide)⟩
        | 1, e => cases e; exact .inl ⟨_, rfl, oz1.mono (by decide)⟩
        | 2, e => cases e; exact ask10
        | 3, e => cases e; exact .inl ⟨_, rfl, oz3.mono (by decide)⟩
        | n + 4, e => cases e
      refine sq_forL (K := K) (xs := [V.str (S (ratL t b)), .str z1, v2, .str z3]) (fun _ σ' H' => ∃ y8, σ' = [some (V.ref a), some (V.ref p), some (V.int (i : Int)), some (V.int t), some (V.int b), some (V.ref x), some (V.str (S (ratL t b))), some (V.ref z), y8] ∧ Grow H10 H') rfl (SqL.of hZ10) ⟨_, rfl, grow_rfl⟩ (fun _ σ' H' _ ⟨y8, _, g⟩ => SqL.of (g _ _ hZ10)) ?_ ?_
      · rintro m y σ' H' e ⟨y8, rfl, g⟩ D2 hD2
        have ay := (all m y e).grow g
        show tIfS _ _ _ _ [some (V.ref a), some (V.ref p), some (V.int (i : Int)), some (V.int t), some (V.int b), some (V.ref x), some (V.str (S (ratL t b))), some (V.ref z), some y] H'
        refine ls_no (ne_ask (evp_ask T kS rfl ay) (evp_ask T kS rfl ay)) fun H'' g2 => ?_
        exact hD2 _ _ ⟨_, rfl, g.tr g2⟩
      · rintro σ' H11 ⟨y8, rfl, g11'⟩
        have hA11 := g11' _ _ hA10
        have Q11 := Q10.grow g11'
        have pr := prog_rat lw.pos lw.cop lw.bt bb'
        have e1 : EvB (tTest (tOp (rNeO K C (spEq K C) E0) (tCMethK C (spRead K C CI) E0 g11 (tC (.ref C)) (tCons (tVar 6) tNil)) (tVar 5))) [some (V.ref a), some (V.ref p), some (V.int (i : Int)), some (V.int t), some (V.int b), some (V.ref x), some (V.str (S (ratL t b))), some (V.ref z), y8] H11 false := by
          intro H12 g12 Q' q'
          refine ⟨rfl, _, rfl, _, rfl, .inl ⟨ratL t b, rfl, ?_, fun t' b' e v' H13 g13 hv => ?_, fun e => ?_⟩⟩
          · have := od.len
            rw [S_len] at this
            omega
          · rw [pr] at e
            cases e
            obtain ⟨y, dy, rfl, ey⟩ := hv
            have hA13 := g13 _ _ (g12 _ _ hA11)
            refine ⟨_, rfl, y, dy, _, .ref C, rfl, ey, T.ty hA13, nf, y, dy, t, b, .ref x, true, rfl, ey, T.kr hA13, fun z => Bool.noConfusion z, fun _ => ⟨x, dx, t, b, rfl, hA13, true, ?_, false, rfl, q' _ g13⟩⟩
            rw [decide_eq_true rfl, decide_eq_true rfl]
            rfl
          · rw [pr] at e
            cases e
        have e2 : EvB (tTest (tOp rNe (tCB (rTxtO C (spTxt C ratL) E0) (tCons (tVar 5) tNil)) (tVar 6))) [some (V.ref a), some (V.ref p), some (V.int (i : Int)), some (V.int t), some (V.int b), some (V.ref x), some (V.str (S (ratL t b))), some (V.ref z), y8] H11 false := fun H12 g12 Q' q' =>
          ans_ne (b := false) (vstr rfl (g12 _ _ hA11)) (val_var rfl) rfl (by rw [decide_eq_true rfl]; rfl) _ (q' _ grow_rfl)
        show tIfS _ _ _ _ [some (V.ref a), some (V.ref p), some (V.int (i : Int)), some (V.int t), some (V.int b), some (V.ref x), some (V.str (S (ratL t b))), some (V.ref z), y8] H11
        refine ls_no (evb_or e1 e2) fun H12 g12 => ?_
        exact hD _ _ ⟨_, _, _, _, _, _, _, k4, r4, rfl, Q11.grow g12, by omega⟩
    · rintro σ H' _
      exact q H'
end
end B3
set_option maxRecDepth 100000
set_option maxHeartbeats 8000000
namespace B3
open PySem PySem.Spec PyProof.Rows L2 RX LP XO SX TX
/-! ### what the top has written, looked at in one go -/
def rB (K : PySem.W.Frag) (C CI CQ : Addr) : Bool := PySem.W.plainGet K C Str.empty && (PySem.W.hasDictIn K C && (PySem.W.plainOver K C && (decide (PySem.W.findIn K (.ref C) "__setattr__" = some (some (.builtin "object.__setattr__"))) && (decide (PySem.W.findIn K (.ref C) "top" = some none) && (decide (PySem.W.findIn K (.ref C) "bottom" = some none) && (PySem.W.excIn K CI [.type "ValueError", .type "Exception", .type "BaseException", .type "object"] "ValueError.__new__" && (PySem.W.keepIn K (.ref CI) && (decide (PySem.W.subIn K (.ref CI) (.type "BaseException") = some true) && (decide (PySem.W.typeIn K (.ref CI) = some (.type "type")) && (PySem.W.excIn K CQ [.type "ValueError", .type "Exception", .type "BaseException", .type "object"] "ValueError.__new__" && (PySem.W.keepIn K (.ref CQ) && (decide (PySem.W.subIn K (.ref CQ) (.type "BaseException") = some true) && (decide (PySem.W.typeIn K (.ref CQ) = some (.type "type")) && (decide (PySem.W.findIn K (.ref C) "__class__" = some (some (.builtin "object.__class__"))) && (decide (PySem.W.specialIn K (.builtin "object.__class__") "__get__" = some (some (.builtin "getset_descriptor.__get__"))) && (decide (PySem.W.takesIn K (.builtin "object.__class__") = some true) && (decide (PySem.W.mroIn K C (.type "object") = some true) && (decide (PySem.W.kitOne K (.ref C) (.type "int") = some false) && (decide (PySem.W.kitOne K (.ref C) (.type "bool") = some false) && (decide (PySem.W.kitOne K (.ref C) (.ref C) = some true) && (["NoneType", "bool", "int", "str", "list", "tuple", "dict"].all fun n => decide (PySem.W.kitOne K (.type n) (.ref C) = some false))))))))))))))))))))))
def hB (K : PySem.W.Frag) (CI CF : Addr) : Bool := decide (PySem.W.exmOne K (.ref CI) (.ref CI) = some true) && (decide (PySem.W.findIn K (.ref CI) "__getattribute__" = some (some (.builtin "BaseException.__getattribute__"))) && (decide (PySem.W.findIn K (.ref CI) "__getattr__" = some none) && (decide (PySem.W.subIn K (.ref CI) (.type "BaseException") = some true) && (PySem.W.hasDictIn K CI && (decide (PySem.W.findIn K (.ref CI) "__class__" = some (some (.builtin "object.__class__"))) && (decide (PySem.W.specialIn K (.builtin "object.__class__") "__get__" = some (some (.builtin "getset_descriptor.__get__"))) && (decide (PySem.W.takesIn K (.builtin "object.__class__") = some true) && (decide (PySem.W.mroIn K CI (.type "object") = some true) && (decide (PySem.W.kitOne K (.ref CI) (.ref CF) = some true) && (decide (PySem.W.kitOne K (.ref CI) (.type "ValueError") = some true)))))))))))
def sB (K : PySem.W.Frag) (C : Addr) : Bool := decide (PySem.W.kitOne K (.ref C) (.type "str") = some false) && (PySem.W.notFirst K C (.ref C) && (decide (PySem.W.findIn K (.ref C) "__ne__" = some (some (.builtin "object.__ne__"))) && (PySem.W.makesIn K C && (PySem.W.keepIn K (.ref C) && (PySem.W.readsIn K C (.type "type") && (decide (PySem.W.specialIn K (.ref C) "__getattribute__" = some (some (.builtin "type.__getattribute__")))))))))
theorem rt_of {K : PySem.W.Frag} {mg : Str → Option Value} {C CI CQ : Addr} (h : rB K C CI CQ = true) (gR : mg "Ratio" = some (.ref C)) (gI : mg "InvalidRatio" = some (.ref CI)) (gQ : mg "NoQuotient" = some (.ref CQ)) (gcd : mg "gcd" = some (.builtin "math.gcd")) (B : Bl mg) : RTx K mg C CI CQ := by
  unfold rB at h
  simp only [Bool.and_eq_true, decide_eq_true_eq, List.all_eq_true] at h
  obtain ⟨pg, hd, po, sa, nT, nB, xI, kI, bI, tI, xQ, kQ, bQ, tQ, ha, hn, ht, hm, kInt, kBool, kR, kOf⟩ := h
  exact { cl := ⟨pg, hd, po, sa⟩, nT := nT, nB := nB, gR := gR, gI := gI, xI := xI, kI := kI, bI := bI, tI := tI, gQ := gQ, xQ := xQ, kQ := kQ, bQ := bQ, tQ := tQ, ha := ha, hn := hn, ht := ht, hm := hm, kInt := kInt, kBool := kBool, kR := kR, kOf := kOf, gcd := gcd, isi := B.isi, int := B.int, bool := B.bool }
theorem ht_of {K : PySem.W.Frag} {mg : Str → Option Value} {CI CF : Addr} (h : hB K CI CF = true) (gF : mg "FaceError" = some (.ref CF)) : HTx K mg CI CF := by
  unfold hB at h
  simp only [Bool.and_eq_true, decide_eq_true_eq] at h
  obtain ⟨eII, xI1, xI2, xI3, xI4, xI5, xI6, xI7, xI8, iF, iV⟩ := h
  exact { gF := gF, eII := eII, xI := ⟨xI1, xI2, xI3, xI4, xI5, xI6, xI7, xI8⟩, iF := iF, iV := iV }
/-- the law's call, from its caller -/
def LawRun (P : Program) (w : World) (K : PySem.W.Frag) (mg : Str → Option Value) (fa : Addr) : Prop := ∀ (base : Heap) (s : Shared) (a : Addr) (ns : List Int) (H : Hp), Env0 P w K mg base callerA [] s H → SqL K H a (ns.map V.int) → ns.length ≤ 63 →
  codeAny (model P w) callerA (.call (.ref fa) ⟨[.ref a], []⟩) (CR CX0 [] P w H s (fun v _ => v = .bl true) fun _ _ _ => False) s
theorem walk {l : PySem.W.OpenLaw} {q : Program} {loose : List Str} {XP : (Str → Option Value) → Heap → Prop} {YP : World → Heap → Prop} {d : DefRec} {K : Params → PySem.W.Frag} (hn : l.most = some 63) (hdf : d.params.defaults = []) (hY : ∀ (w : World) (h : Heap), YP w h → (K w.params).In h)
    (F : ∀ (w : World) (mg : Str → Option Value) (fa : Addr) (h : Heap), (K w.params).In h → h.Ns mainGlobals mg → mg d.name = some (.ref fa) → LawRun l.prog w (K w.params) mg fa) :
    PySem.W.WalkO q loose XP YP l.row.toRowW d [] (fun f vs => PySem.call f vs) := by
  refine Att.attach_call hn hdf fun w s₀ s₁ mg mb fa o pm cd doc a vs ns G Y ho hd hcd hmg hobj hints hlen hg => ?_
  have KX := hY w _ Y
  exact law_at KX G.T.g G.T.b G.T.builtins G.T.nolimit hg hobj hints (Nat.le_trans hlen (by decide)) fun base H _ _ e0 _ sq => F w mg fa _ KX G.T.g hmg base s₁ a ns H e0 sq hlen
theorem g11_rel {vs zs : List V} {us ws : List Value} (r1 : Vals vs us) (r2 : Vals zs ws) : Vals (g11 vs zs) (g11 us ws) := by
  cases r1 with
  | nil => exact .nil
  | cons a r =>
    cases r with
    | cons => exact .nil
    | nil =>
      cases r2 with
      | nil => exact .nil
      | cons b r' =>
        cases r' with
        | nil => exact .cons a (.cons b .nil)
        | cons => exact .nil
theorem mk {P : Program} {w : World} {K : PySem.W.Frag} {h : Heap} {mg : Str → Option Value} {fa : Addr} (X : K.In h) (G : h.Ns mainGlobals mg) (hfa : mg "law" = some (.ref fa))
    {C CI CQ CF : Addr} {tM tD : Tok} {zD : Str}
    {F0 : Addr} {Oc0 Kv0 Do0 Pm0 Cd0 Ct0 : Value} {Od0 An0 : Option Addr} {Sl0 : Array (Option Value)}
    {F1 : Addr} {Oc1 Kv1 Do1 Pm1 Cd1 Ct1 : Value} {Od1 An1 : Option Addr} {Sl1 : Array (Option Value)}
    {F2 : Addr} {Oc2 Kv2 Do2 Pm2 Cd2 Ct2 : Value} {Od2 An2 : Option Addr} {Sl2 : Array (Option Value)}
    {F3 : Addr} {Oc3 Kv3 Do3 Pm3 Cd3 Ct3 : Value} {Od3 An3 : Option Addr} {Sl3 : Array (Option Value)}
    {F4 : Addr} {Oc4 Kv4 Do4 Pm4 Cd4 Ct4 : Value} {Od4 An4 : Option Addr} {Sl4 : Array (Option Value)}
    {F5 : Addr} {Oc5 Kv5 Do5 Pm5 Cd5 Ct5 : Value} {Od5 An5 : Option Addr} {Sl5 : Array (Option Value)}
    {F6 : Addr} {Oc6 Kv6 Do6 Pm6 Cd6 Ct6 : Value} {Od6 An6 : Option Addr} {Sl6 : Array (Option Value)}
    {F7 : Addr} {Oc7 Kv7 Do7 Pm7 Cd7 Ct7 : Value} {Od7 An7 : Option Addr} {Sl7 : Array (Option Value)}
    {F8 : Addr} {Oc8 Kv8 Do8 Pm8 Cd8 Ct8 : Value} {Od8 An8 : Option Addr} {Sl8 : Array (Option Value)}
    {F9 : Addr} {Oc9 Kv9 Do9 Pm9 Cd9 Ct9 : Value} {Od9 An9 : Option Addr} {Sl9 : Array (Option Value)}
    {F10 : Addr} {Oc10 Kv10 Do10 Pm10 Cd10 Ct10 : Value} {Od10 An10 : Option Addr} {Sl10 : Array (Option Value)}
    {F11 : Addr} {Oc11 Kv11 Do11 Pm11 Cd11 Ct11 : Value} {Od11 An11 : Option Addr} {Sl11 : Array (Option Value)}
    {M0 : Addr} {Mo0 Mk0 Md0 Mp0 Mc0 Mt0 : Value} {Mq0 Mn0 : Option Addr} {Ms0 : Array (Option Value)}
    {dT : Addr} {oT : Value} {qT : Option Addr} {nT : Nat} {tT : Tok} {sT : Array (Option Value)}
    {M1 : Addr} {Mo1 Mk1 Md1 Mp1 Mc1 Mt1 : Value} {Mq1 Mn1 : Option Addr} {Ms1 : Array (Option Value)}
    {pO : Addr} {rO : List Value}
    {M2 : Addr} {Mo2 Mk2 Md2 Mp2 Mc2 Mt2 : Value} {Mq2 Mn2 : Option Addr} {Ms2 : Array (Option Value)}
    {M3 : Addr} {Mo3 Mk3 Md3 Mp3 Mc3 Mt3 : Value} {Mq3 Mn3 : Option Addr} {Ms3 : Array (Option Value)}
    {M4 : Addr} {Mo4 Mk4 Md4 Mp4 Mc4 Mt4 : Value} {Mq4 Mn4 : Option Addr} {Ms4 : Array (Option Value)}
    (gC : PySem.W.nsIn K mainGlobals "Ratio" = some (some (.ref C)))
    (gCI : PySem.W.nsIn K mainGlobals "InvalidRatio" = some (some (.ref CI)))
    (gCQ : PySem.W.nsIn K mainGlobals "NoQuotient" = some (some (.ref CQ)))
    (gCF : PySem.W.nsIn K mainGlobals "FaceError" = some (some (.ref CF)))
    (gG : PySem.W.nsIn K mainGlobals "gcd" = some (some (.builtin "math.gcd")))
    (gM : PySem.W.nsIn K mainGlobals "MOST_DIGITS" = some (some (.int 60 tM)))
    (gD : PySem.W.nsIn K mainGlobals "DIGITS" = some (some (.str zD tD)))
    (eD : zD = S digitsL)
    (z_abs : PySem.W.nsIn K mainGlobals "abs" = some none)
    (z_int : PySem.W.nsIn K mainGlobals "int" = some none)
    (z_str : PySem.W.nsIn K mainGlobals "str" = some none)
    (z_isinstance : PySem.W.nsIn K mainGlobals "isinstance" = some none)
    (z_bool : PySem.W.nsIn K mainGlobals "bool" = some none)
    (z_repr : PySem.W.nsIn K mainGlobals "repr" = some none)
    (z_list : PySem.W.nsIn K mainGlobals "list" = some none)
    (z_len : PySem.W.nsIn K mainGlobals "len" = some none)
    (z_all : PySem.W.nsIn K mainGlobals "all" = some none)
    (z_range : PySem.W.nsIn K mainGlobals "range" = some none)
    (z_ValueError : PySem.W.nsIn K mainGlobals "ValueError" = some none)
    (A0 : PySem.W.nsIn K mainGlobals "_are_digits" = some (some (.ref F0)))
    (L0 : K.lookup F0 = some ⟨Oc0, Od0, .func (PySem.W.fnOf "_are_digits" "_are_digits" (defArgs sDig) (defBody sDig) (defScope sDig) .none Kv0 Do0 Pm0 An0 Cd0 Ct0), Sl0⟩)
    (Q0 : PySem.W.codeIn K Cd0 "_are_digits" = true)
    (K0 : PySem.W.keepIn K (.ref F0) = true)
    (A1 : PySem.W.nsIn K mainGlobals "_law_pen" = some (some (.ref F1)))
    (L1 : K.lookup F1 = some ⟨Oc1, Od1, .func (PySem.W.fnOf "_law_pen" "_law_pen" (defArgs sPen) (defBody sPen) (defScope sPen) .none Kv1 Do1 Pm1 An1 Cd1 Ct1), Sl1⟩)
    (Q1 : PySem.W.codeIn K Cd1 "_law_pen" = true)
    (K1 : PySem.W.keepIn K (.ref F1) = true)
    (A2 : PySem.W.nsIn K mainGlobals "_law_draw" = some (some (.ref F2)))
    (L2 : K.lookup F2 = some ⟨Oc2, Od2, .func (PySem.W.fnOf "_law_draw" "_law_draw" (defArgs sDraw) (defBody sDraw) (defScope sDraw) .none Kv2 Do2 Pm2 An2 Cd2 Ct2), Sl2⟩)
    (Q2 : PySem.W.codeIn K Cd2 "_law_draw" = true)
    (K2 : PySem.W.keepIn K (.ref F2) = true)
    (A3 : PySem.W.nsIn K mainGlobals "_law_divisor" = some (some (.ref F3)))
    (L3 : K.lookup F3 = some ⟨Oc3, Od3, .func (PySem.W.fnOf "_law_divisor" "_law_divisor" (defArgs sDivisor) (defBody sDivisor) (defScope sDivisor) .none Kv3 Do3 Pm3 An3 Cd3 Ct3), Sl3⟩)
    (Q3 : PySem.W.codeIn K Cd3 "_law_divisor" = true)
    (K3 : PySem.W.keepIn K (.ref F3) = true)
    (A4 : PySem.W.nsIn K mainGlobals "_law_parts" = some (some (.ref F4)))
    (L4 : K.lookup F4 = some ⟨Oc4, Od4, .func (PySem.W.fnOf "_law_parts" "_law_parts" (defArgs sParts) (defBody sParts) (defScope sParts) .none Kv4 Do4 Pm4 An4 Cd4 Ct4), Sl4⟩)
    (Q4 : PySem.W.codeIn K Cd4 "_law_parts" = true)
    (K4 : PySem.W.keepIn K (.ref F4) = true)
    (A5 : PySem.W.nsIn K mainGlobals "_law_text" = some (some (.ref F5)))
    (L5 : K.lookup F5 = some ⟨Oc5, Od5, .func (PySem.W.fnOf "_law_text" "_law_text" (defArgs sText) (defBody sText) (defScope sText) .none Kv5 Do5 Pm5 An5 Cd5 Ct5), Sl5⟩)
    (Q5 : PySem.W.codeIn K Cd5 "_law_text" = true)
    (K5 : PySem.W.keepIn K (.ref F5) = true)
    (A6 : PySem.W.nsIn K mainGlobals "_law_whole" = some (some (.ref F6)))
    (L6 : K.lookup F6 = some ⟨Oc6, Od6, .func (PySem.W.fnOf "_law_whole" "_law_whole" (defArgs sWhole) (defBody sWhole) (defScope sWhole) .none Kv6 Do6 Pm6 An6 Cd6 Ct6), Sl6⟩)
    (Q6 : PySem.W.codeIn K Cd6 "_law_whole" = true)
    (K6 : PySem.W.keepIn K (.ref F6) = true)
    (A7 : PySem.W.nsIn K mainGlobals "_law_read" = some (some (.ref F7)))
    (L7 : K.lookup F7 = some ⟨Oc7, Od7, .func (PySem.W.fnOf "_law_read" "_law_read" (defArgs sLRead) (defBody sLRead) (defScope sLRead) .none Kv7 Do7 Pm7 An7 Cd7 Ct7), Sl7⟩)
    (Q7 : PySem.W.codeIn K Cd7 "_law_read" = true)
    (K7 : PySem.W.keepIn K (.ref F7) = true)
    (A8 : PySem.W.nsIn K mainGlobals "_law_bent" = some (some (.ref F8)))
    (L8 : K.lookup F8 = some ⟨Oc8, Od8, .func (PySem.W.fnOf "_law_bent" "_law_bent" (defArgs sBent) (defBody sBent) (defScope sBent) .none Kv8 Do8 Pm8 An8 Cd8 Ct8), Sl8⟩)
    (Q8 : PySem.W.codeIn K Cd8 "_law_bent" = true)
    (K8 : PySem.W.keepIn K (.ref F8) = true)
    (A9 : PySem.W.nsIn K mainGlobals "_law_far" = some (some (.ref F9)))
    (L9 : K.lookup F9 = some ⟨Oc9, Od9, .func (PySem.W.fnOf "_law_far" "_law_far" (defArgs sFar) (defBody sFar) (defScope sFar) .none Kv9 Do9 Pm9 An9 Cd9 Ct9), Sl9⟩)
    (Q9 : PySem.W.codeIn K Cd9 "_law_far" = true)
    (K9 : PySem.W.keepIn K (.ref F9) = true)
    (A10 : PySem.W.nsIn K mainGlobals "_law_told" = some (some (.ref F10)))
    (L10 : K.lookup F10 = some ⟨Oc10, Od10, .func (PySem.W.fnOf "_law_told" "_law_told" (defArgs sTold) (defBody sTold) (defScope sTold) .none Kv10 Do10 Pm10 An10 Cd10 Ct10), Sl10⟩)
    (Q10 : PySem.W.codeIn K Cd10 "_law_told" = true)
    (K10 : PySem.W.keepIn K (.ref F10) = true)
    (A11 : PySem.W.nsIn K mainGlobals "law" = some (some (.ref F11)))
    (L11 : K.lookup F11 = some ⟨Oc11, Od11, .func (PySem.W.fnOf "law" "law" (defArgs sLaw) (defBody sLaw) (defScope sLaw) .none Kv11 Do11 Pm11 An11 Cd11 Ct11), Sl11⟩)
    (Q11 : PySem.W.codeIn K Cd11 "law" = true)
    (K11 : PySem.W.keepIn K (.ref F11) = true)
    (m0 : PySem.W.findIn K (.ref C) "__init__" = some (some (.ref M0)))
    (l0 : K.lookup M0 = some ⟨Mo0, Mq0, .func (PySem.W.fnOf "__init__" "Ratio.__init__" (defArgs sInit) (defBody sInit) (defScope sInit) (.ref dT) Mk0 Md0 Mp0 Mn0 Mc0 Mt0), Ms0⟩)
    (lT : K.lookup dT = some ⟨oT, qT, .seq [Value.int 1 tT].toArray nT, sT⟩)
    (q0 : PySem.W.codeIn K Mc0 "Ratio.__init__" = true)
    (k0 : PySem.W.keepIn K (.ref M0) = true)
    (i0 : PySem.W.isFn K (.ref M0) = true)
    (m_of : PySem.W.findIn K (.ref C) "read" = some (some (.ref pO)))
    (r_of : PySem.W.recIn K pO "classmethod" = some (.ref M1 :: rO))
    (c_of : PySem.W.findCls K (.ref C) (.type "type") "read" = some (.get (.builtin "classmethod.__get__") (.ref pO) .none (.ref C)))
    (f_of : PySem.W.fnIn K M1 = true)
    (l1 : K.lookup M1 = some ⟨Mo1, Mq1, .func (PySem.W.fnOf "read" "Ratio.read" (defArgs sRead) (defBody sRead) (defScope sRead) .none Mk1 Md1 Mp1 Mn1 Mc1 Mt1), Ms1⟩)
    (q1 : PySem.W.codeIn K Mc1 "Ratio.read" = true)
    (k1 : PySem.W.keepIn K (.ref M1) = true)
    (m2 : PySem.W.findIn K (.ref C) "__eq__" = some (some (.ref M2)))
    (l2 : K.lookup M2 = some ⟨Mo2, Mq2, .func (PySem.W.fnOf "__eq__" "Ratio.__eq__" (defArgs sEq) (defBody sEq) (defScope sEq) .none Mk2 Md2 Mp2 Mn2 Mc2 Mt2), Ms2⟩)
    (q2 : PySem.W.codeIn K Mc2 "Ratio.__eq__" = true)
    (k2 : PySem.W.keepIn K (.ref M2) = true)
    (i2 : PySem.W.isFn K (.ref M2) = true)
    (m3 : PySem.W.findIn K (.ref C) "__str__" = some (some (.ref M3)))
    (l3 : K.lookup M3 = some ⟨Mo3, Mq3, .func (PySem.W.fnOf "__str__" "Ratio.__str__" (defArgs sStr) (defBody sStr) (defScope sStr) .none Mk3 Md3 Mp3 Mn3 Mc3 Mt3), Ms3⟩)
    (q3 : PySem.W.codeIn K Mc3 "Ratio.__str__" = true)
    (k3 : PySem.W.keepIn K (.ref M3) = true)
    (i3 : PySem.W.isFn K (.ref M3) = true)
    (m4 : PySem.W.findIn K (.ref C) "__repr__" = some (some (.ref M4)))
    (l4 : K.lookup M4 = some ⟨Mo4, Mq4, .func (PySem.W.fnOf "__repr__" "Ratio.__repr__" (defArgs sRepr) (defBody sRepr) (defScope sRepr) .none Mk4 Md4 Mp4 Mn4 Mc4 Mt4), Ms4⟩)
    (q4 : PySem.W.codeIn K Mc4 "Ratio.__repr__" = true)
    (k4 : PySem.W.keepIn K (.ref M4) = true)
    (i4 : PySem.W.isFn K (.ref M4) = true)
    (rb : rB K C CI CQ = true)
    (hb : hB K CI CF = true)
    (sb : sB K C = true) : LawRun P w K mg fa := by
  subst eD
  have e := hfa.symm.trans (PySem.W.mg_of X G A11)
  cases e
  have B : Bl mg := { abs := PySem.W.mg_none_of X G z_abs, int := PySem.W.mg_none_of X G z_int, str := PySem.W.mg_none_of X G z_str, isi := PySem.W.mg_none_of X G z_isinstance, bool := PySem.W.mg_none_of X G z_bool, repr := PySem.W.mg_none_of X G z_repr, list := PySem.W.mg_none_of X G z_list, len := PySem.W.mg_none_of X G z_len, all := PySem.W.mg_none_of X G z_all, range := PySem.W.mg_none_of X G z_range, ve := PySem.W.mg_none_of X G z_ValueError, md := ⟨tM, PySem.W.mg_of X G gM⟩, dg := ⟨tD, PySem.W.mg_of X G gD⟩ }
  have T : RTx K mg C CI CQ := rt_of rb (PySem.W.mg_of X G gC) (PySem.W.mg_of X G gCI) (PySem.W.mg_of X G gCQ) (PySem.W.mg_of X G gG) B
  have HT : HTx K mg CI CF := ht_of hb (PySem.W.mg_of X G gCF)
  unfold sB at sb
  simp only [Bool.and_eq_true, decide_eq_true_eq] at sb
  obtain ⟨kS, nf, ne, mk, kc, rd, ga⟩ := sb
  have Y0 := fun_mk (st := sDig) L0 Q0 K0
  have D0 : At K mg "_are_digits" F0 (PySem.W.fnOf "_are_digits" "_are_digits" (defArgs sDig) (defBody sDig) (defScope sDig) .none Kv0 Do0 Pm0 An0 Cd0 Ct0) ["word"] := ⟨PySem.W.mg_of X G A0, K0, Y0.binds fun _ _ _ _ _ _ us hl => match us, hl with | [_], _ => rfl⟩
  have Y1 := fun_mk (st := sPen) L1 Q1 K1
  have D1 : At K mg "_law_pen" F1 (PySem.W.fnOf "_law_pen" "_law_pen" (defArgs sPen) (defBody sPen) (defScope sPen) .none Kv1 Do1 Pm1 An1 Cd1 Ct1) ["_law_script"] := ⟨PySem.W.mg_of X G A1, K1, Y1.binds fun _ _ _ _ _ _ us hl => match us, hl with | [_], _ => rfl⟩
  have Y2 := fun_mk (st := sDraw) L2 Q2 K2
  have D2 : At K mg "_law_draw" F2 (PySem.W.fnOf "_law_draw" "_law_draw" (defArgs sDraw) (defBody sDraw) (defScope sDraw) .none Kv2 Do2 Pm2 An2 Cd2 Ct2) ["_law_pen_here", "_law_many"] := ⟨PySem.W.mg_of X G A2, K2, Y2.binds fun _ _ _ _ _ _ us hl => match us, hl with | [_, _], _ => rfl⟩
  have Y3 := fun_mk (st := sDivisor) L3 Q3 K3
  have D3 : At K mg "_law_divisor" F3 (PySem.W.fnOf "_law_divisor" "_law_divisor" (defArgs sDivisor) (defBody sDivisor) (defScope sDivisor) .none Kv3 Do3 Pm3 An3 Cd3 Ct3) ["_law_one", "_law_other"] := ⟨PySem.W.mg_of X G A3, K3, Y3.binds fun _ _ _ _ _ _ us hl => match us, hl with | [_, _], _ => rfl⟩
  have Y4 := fun_mk (st := sParts) L4 Q4 K4
  have D4 : At K mg "_law_parts" F4 (PySem.W.fnOf "_law_parts" "_law_parts" (defArgs sParts) (defBody sParts) (defScope sParts) .none Kv4 Do4 Pm4 An4 Cd4 Ct4) ["_law_pen_here"] := ⟨PySem.W.mg_of X G A4, K4, Y4.binds fun _ _ _ _ _ _ us hl => match us, hl with | [_], _ => rfl⟩
  have Y5 := fun_mk (st := sText) L5 Q5 K5
  have D5 : At K mg "_law_text" F5 (PySem.W.fnOf "_law_text" "_law_text" (defArgs sText) (defBody sText) (defScope sText) .none Kv5 Do5 Pm5 An5 Cd5 Ct5) ["_law_top", "_law_bottom"] := ⟨PySem.W.mg_of X G A5, K5, Y5.binds fun _ _ _ _ _ _ us hl => match us, hl with | [_, _], _ => rfl⟩
  have Y6 := fun_mk (st := sWhole) L6 Q6 K6
  have D6 : At K mg "_law_whole" F6 (PySem.W.fnOf "_law_whole" "_law_whole" (defArgs sWhole) (defBody sWhole) (defScope sWhole) .none Kv6 Do6 Pm6 An6 Cd6 Ct6) ["_law_word"] := ⟨PySem.W.mg_of X G A6, K6, Y6.binds fun _ _ _ _ _ _ us hl => match us, hl with | [_], _ => rfl⟩
  have Y7 := fun_mk (st := sLRead) L7 Q7 K7
  have D7 : At K mg "_law_read" F7 (PySem.W.fnOf "_law_read" "_law_read" (defArgs sLRead) (defBody sLRead) (defScope sLRead) .none Kv7 Do7 Pm7 An7 Cd7 Ct7) ["_law_value"] := ⟨PySem.W.mg_of X G A7, K7, Y7.binds fun _ _ _ _ _ _ us hl => match us, hl with | [_], _ => rfl⟩
  have Y8 := fun_mk (st := sBent) L8 Q8 K8
  have D8 : At K mg "_law_bent" F8 (PySem.W.fnOf "_law_bent" "_law_bent" (defArgs sBent) (defBody sBent) (defScope sBent) .none Kv8 Do8 Pm8 An8 Cd8 Ct8) ["_law_pen_here", "_law_page"] := ⟨PySem.W.mg_of X G A8, K8, Y8.binds fun _ _ _ _ _ _ us hl => match us, hl with | [_, _], _ => rfl⟩
  have Y9 := fun_mk (st := sFar) L9 Q9 K9
  have D9 : At K mg "_law_far" F9 (PySem.W.fnOf "_law_far" "_law_far" (defArgs sFar) (defBody sFar) (defScope sFar) .none Kv9 Do9 Pm9 An9 Cd9 Ct9) ["_law_pen_here"] := ⟨PySem.W.mg_of X G A9, K9, Y9.binds fun _ _ _ _ _ _ us hl => match us, hl with | [_], _ => rfl⟩
  have Y10 := fun_mk (st := sTold) L10 Q10 K10
  have D10 : At K mg "_law_told" F10 (PySem.W.fnOf "_law_told" "_law_told" (defArgs sTold) (defBody sTold) (defScope sTold) .none Kv10 Do10 Pm10 An10 Cd10 Ct10) ["_law_value"] := ⟨PySem.W.mg_of X G A10, K10, Y10.binds fun _ _ _ _ _ _ us hl => match us, hl with | [_], _ => rfl⟩
  have Y11 := fun_mk (st := sLaw) L11 Q11 K11
  have FI : FunD K "__init__" "Ratio.__init__" (defArgs sInit) (defBody sInit) (defScope sInit) [V.int 1] [] M0 (PySem.W.fnOf "__init__" "Ratio.__init__" (defArgs sInit) (defBody sInit) (defScope sInit) (.ref dT) Mk0 Md0 Mp0 Mn0 Mc0 Mt0) := ⟨⟨_, _, _, _, _, _, _, _, _, _, rfl, l0, q0, .inr ⟨List.cons_ne_nil _ _, dT, _, [Value.int 1 tT], nT, rfl, lT, rfl, .cons ⟨tT, rfl⟩ .nil⟩, .inl rfl⟩, k0⟩
  have bI2 : Binds K (PySem.W.fnOf "__init__" "Ratio.__init__" (defArgs sInit) (defBody sInit) (defScope sInit) (.ref dT) Mk0 Md0 Mp0 Mn0 Mc0 Mt0) psI [] := by
    obtain ⟨ds, r, z⟩ := FI.binds1 (ps := psI) 3 1 (List.cons_ne_nil _ _) rfl (fun T kV doc pm an cdv ct us its l1 l2 => match us, its, l1, l2 with | [_, _, _], [_], _, _ => ⟨_, rfl, rfl⟩)
    cases r
    exact z
  have U1 := fun_mk (st := sRead) l1 q1 k1
  have u1 : Binds K (PySem.W.fnOf "read" "Ratio.read" (defArgs sRead) (defBody sRead) (defScope sRead) .none Mk1 Md1 Mp1 Mn1 Mc1 Mt1) ["cls", "text"] [] := U1.binds fun _ _ _ _ _ _ us hl => match us, hl with | [_, _], _ => rfl
  have v1 : KBinds K (PySem.W.fnOf "read" "Ratio.read" (defArgs sRead) (defBody sRead) (defScope sRead) .none Mk1 Md1 Mp1 Mn1 Mc1 Mt1) ["cls", "text"] ["text"] g11 g11 := ⟨fun s us ws _ hl => match us, ws, hl with | [_], [_], _ => .of_eq rfl, fun r1 r2 => g11_rel r1 r2⟩
  have U2 := fun_mk (st := sEq) l2 q2 k2
  have u2 : Binds K (PySem.W.fnOf "__eq__" "Ratio.__eq__" (defArgs sEq) (defBody sEq) (defScope sEq) .none Mk2 Md2 Mp2 Mn2 Mc2 Mt2) ["self", "other"] [] := U2.binds fun _ _ _ _ _ _ us hl => match us, hl with | [_, _], _ => rfl
  have U3 := fun_mk (st := sStr) l3 q3 k3
  have u3 : Binds K (PySem.W.fnOf "__str__" "Ratio.__str__" (defArgs sStr) (defBody sStr) (defScope sStr) .none Mk3 Md3 Mp3 Mn3 Mc3 Mt3) ["self"] [] := U3.binds fun _ _ _ _ _ _ us hl => match us, hl with | [_], _ => rfl
  have U4 := fun_mk (st := sRepr) l4 q4 k4
  have u4 : Binds K (PySem.W.fnOf "__repr__" "Ratio.__repr__" (defArgs sRepr) (defBody sRepr) (defScope sRepr) .none Mk4 Md4 Mp4 Mn4 Mc4 Mt4) ["self"] [] := U4.binds fun _ _ _ _ _ _ us hl => match us, hl with | [_], _ => rfl
  intro base s a ns H e0 sq hl
  have RM : RMk P w K mg base C CI M0 (PySem.W.fnOf "__init__" "Ratio.__init__" (defArgs sInit) (defBody sInit) (defScope sInit) (.ref dT) Mk0 Md0 Mp0 Mn0 Mc0 Mt0) := ⟨⟨mk, m0, i0, kc⟩, ok_init T FI, bI2⟩
  have Ga := ok_dig (P := P) (w := w) (base := base) Y0 B
  have GS := ok_str (P := P) (w := w) (base := base) T U3 B
  have GP := ok_repr (P := P) (w := w) (base := base) T U4
  have GQ := ok_eq (P := P) (w := w) (base := base) T U2
  have Gr := ok_read (P := P) (w := w) (base := base) U1 T B RM Ga D0 GS ⟨m3, i3⟩ u3
  have RD : RdF P w K mg base C CI (.type "type") pO M1 (PySem.W.fnOf "read" "Ratio.read" (defArgs sRead) (defBody sRead) (defScope sRead) .none Mk1 Md1 Mp1 Mn1 Mc1 Mt1) := ⟨⟨rd, ga⟩, ⟨c_of, ⟨rO, r_of⟩, f_of⟩, Gr, u1⟩
  have Gd := ok_draw (P := P) (w := w) (base := base) Y2 B
  have Ge := ok_pen (P := P) (w := w) (base := base) Y1 B
  have Gg := ok_divisor (P := P) (w := w) (base := base) Y3 B
  have Gp := ok_parts (P := P) (w := w) (base := base) Y4 Gd D2 Gg D3
  have Gx := ok_text (P := P) (w := w) (base := base) Y5 B
  have Gw := ok_whole (P := P) (w := w) (base := base) Y6 B
  have Gl := ok_lread (P := P) (w := w) (base := base) Y7 B Gw D6 Gg D3
  have Gb := ok_bent (P := P) (w := w) (base := base) Y8 B Gd D2
  have Gf := ok_far (P := P) (w := w) (base := base) Y9 T RM Gd D2
  have Gt := ok_told (P := P) (w := w) (base := base) Y10 T B HT RD
  have L := ok_law (P := P) (w := w) (base := base) Y11 T kS B RM RD v1 GS ⟨m3, i3⟩ u3 GP ⟨m4, i4⟩ u4 GQ ⟨m2, i2⟩ u2 ne T.hm nf Ge D1 Gp D4 Gx D5 Gb D8 Gf D9 Gt D10 Gl D7
  exact L.run callerA [] s H ⟨[.ref a], []⟩ [.ref a] [.ref a] _ _ ⟨rfl, by decide, by decide⟩ rfl e0 (.of_eq rfl) (.cons rfl .nil) ⟨a, ns, rfl, sq, hl, fun _ => rfl⟩
end B3
open PySem PySem.W PyProof.Rows
set_option maxRecDepth 100000 in
set_option maxHeartbeats 0 in
theorem PySem.Challenge.cw_betweenfaces_k03_fractions_as_texts_holds : PySem.Challenge.rw_betweenfaces_k03_fractions_as_texts.Holds := by
  w_on; o_law; k_head; (case hw => w_witness2)
  k_fill
  refine B3.walk (l := PySem.Challenge.rw_betweenfaces_k03_fractions_as_texts) rfl rfl (fun w h Y => PySem.W.kIn_of Y) ?F
  case F =>
    intro w mg fa h KX G hmg
    refine' B3.mk KX G hmg ?u_gC ?u_gCI ?u_gCQ ?u_gCF ?u_gG ?u_gM ?u_gD ?u_eD ?u_z_abs ?u_z_int ?u_z_str ?u_z_isinstance ?u_z_bool ?u_z_repr ?u_z_list ?u_z_len ?u_z_all ?u_z_range ?u_z_ValueError ?u_A0 ?u_L0 ?u_Q0 ?u_K0 ?u_A1 ?u_L1 ?u_Q1 ?u_K1 ?u_A2 ?u_L2 ?u_Q2 ?u_K2 ?u_A3 ?u_L3 ?u_Q3 ?u_K3 ?u_A4 ?u_L4 ?u_Q4 ?u_K4 ?u_A5 ?u_L5 ?u_Q5 ?u_K5 ?u_A6 ?u_L6 ?u_Q6 ?u_K6 ?u_A7 ?u_L7 ?u_Q7 ?u_K7 ?u_A8 ?u_L8 ?u_Q8 ?u_K8 ?u_A9 ?u_L9 ?u_Q9 ?u_K9 ?u_A10 ?u_L10 ?u_Q10 ?u_K10 ?u_A11 ?u_L11 ?u_Q11 ?u_K11 ?u_m0 ?u_l0 ?u_lT ?u_q0 ?u_k0 ?u_i0 ?u_m_of ?u_r_of ?u_c_of ?u_f_of ?u_l1 ?u_q1 ?u_k1 ?u_m2 ?u_l2 ?u_q2 ?u_k2 ?u_i2 ?u_m3 ?u_l3 ?u_q3 ?u_k3 ?u_i3 ?u_m4 ?u_l4 ?u_q4 ?u_k4 ?u_i4 ?u_rb ?u_hb ?u_sb
    (case u_gC => k_is)
    (case u_gCI => k_is)
    (case u_gCQ => k_is)
    (case u_gCF => k_is)
    (case u_gG => k_is)
    (case u_gM => k_is)
    (case u_gD => k_is)
    (case u_eD => decide +kernel)
    (case u_z_abs => k_is)
    (case u_z_int => k_is)
    (case u_z_str => k_is)
    (case u_z_isinstance => k_is)
    (case u_z_bool => k_is)
    (case u_z_repr => k_is)
    (case u_z_list => k_is)
    (case u_z_len => k_is)
    (case u_z_all => k_is)
    (case u_z_range => k_is)
    (case u_z_ValueError => k_is)
    (case u_A0 => k_is)
    (case u_L0 => k_is)
    (case u_Q0 => k_is)
    (case u_K0 => k_is)
    (case u_A1 => k_is)
    (case u_L1 => k_is)
    (case u_Q1 => k_is)
    (case u_K1 => k_is)
    (case u_A2 => k_is)
    (case u_L2 => k_is)
    (case u_Q2 => k_is)
    (case u_K2 => k_is)
    (case u_A3 => k_is)
    (case u_L3 => k_is)
    (case u_Q3 => k_is)
    (case u_K3 => k_is)
    (case u_A4 => k_is)
    (case u_L4 => k_is)
    (case u_Q4 => k_is)
    (case u_K4 => k_is)
    (case u_A5 => k_is)
    (case u_L5 => k_is)
    (case u_Q5 => k_is)
    (case u_K5 => k_is)
    (case u_A6 => k_is)
    (case u_L6 => k_is)
    (case u_Q6 => k_is)
    (case u_K6 => k_is)
    (case u_A7 => k_is)
    (case u_L7 => k_is)
    (case u_Q7 => k_is)
    (case u_K7 => k_is)
    (case u_A8 => k_is)
    (case u_L8 => k_is)
    (case u_Q8 => k_is)
    (case u_K8 => k_is)
    (case u_A9 => k_is)
    (case u_L9 => k_is)
    (case u_Q9 => k_is)
    (case u_K9 => k_is)
    (case u_A10 => k_is)
    (case u_L10 => k_is)
    (case u_Q10 => k_is)
    (case u_K10 => k_is)
    (case u_A11 => k_is)
    (case u_L11 => k_is)
    (case u_Q11 => k_is)
    (case u_K11 => k_is)
    (case u_m0 => k_is)
    (case u_l0 => k_is)
    (case u_lT => k_is)
    (case u_q0 => k_is)
    (case u_k0 => k_is)
    (case u_i0 => k_is)
    (case u_m_of => k_is)
    (case u_r_of => k_is)
    (case u_c_of => kernel_rfl)
    (case u_f_of => kernel_rfl)
    (case u_l1 => k_is)
    (case u_q1 => k_is)
    (case u_k1 => k_is)
    (case u_m2 => k_is)
    (case u_l2 => k_is)
    (case u_q2 => k_is)
    (case u_k2 => k_is)
    (case u_i2 => k_is)
    (case u_m3 => k_is)
    (case u_l3 => k_is)
    (case u_q3 => k_is)
    (case u_k3 => k_is)
    (case u_i3 => k_is)
    (case u_m4 => k_is)
    (case u_l4 => k_is)
    (case u_q4 => k_is)
    (case u_k4 => k_is)
    (case u_i4 => k_is)
    (case u_rb => kernel_rfl)
    (case u_hb => kernel_rfl)
    (case u_sb => kernel_rfl)
