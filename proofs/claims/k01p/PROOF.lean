import PyProof.Rows.All
import Wide.All
import OpenK.AllK
import Wide.FinOn
import KE.KExcInit
import KE.KExcMake
import HandS.ForMost
import HandS.ExcInit
import HandS.MakeKwOnly
import HandS.IsInst
import HandS.ExcIs
import HandS.ExcValue
import HandS.ExcOwn
import HandS.ExcField
import HandS.Dict
import HandS.RaiseMore
import PyProof.ReprRoads
import HandS.Steps
import HandS.Codes
import HandS.Wide
import PySem.Challenge.RW_betweenfaces_k01_errors_and_their_fields
import PyProof.StrOps2
set_option Elab.async false
set_option linter.all false
set_option maxRecDepth 100000
set_option maxHeartbeats 4000000
/-! Own errors, with an own __init__ that stores or none, over any built-in base, made as values, by place and by name; their fields; isinstance. -/
namespace XO
open PySem PySem.Calls PySem.HandSPX PySem.Builtin PySem.Builtin.ObjectAttr
section
variable {M : Model} {A : Around} {E : Value → Shared → Prop} {hp : Heap} {gs : Array GenState} {dr : Drawn} {tk : Nat} {os : OsState}
variable {nA qA : Str} {C NA : Addr} {bsA tl tlB : List Value} {hd ab : Bool} {snA : List Str} {sbA : List Value} {cl : Option Bool} {ddA : Option Addr} {j0 j1 j2 j3 j5 : Option Value} {B newId initId : String}
theorem chk_new (F : ExcBaseFacts B newId initId tlB) (hT : ∀ Y : String, tl.contains (.type Y) = tlB.contains (.type Y)) {us : List Value} {kw : List (Str × Value)} {Q : Unit → Shared → Prop}
    (lC : hp.get? C = some (excClassObj nA qA C NA bsA tl hd snA sbA ab cl ddA j0 j1 j2 j3 j5 newId)) (q : Q () ⟨hp, gs, dr, tk, os⟩) :
    wpAny M A (checkBuiltinCall newId ⟨.ref C :: us, kw⟩) Q E ⟨hp, gs, dr, tk, os⟩ := by
  have c1 : (Value.ref C :: tl).contains (.type B) = true := by rw [List.contains_cons, hT, F.hasB, Bool.or_true]
  have c2 := F.noStar
  simp only [F.newRow, F.newSplit, F.newKind, checkBuiltinCall]
  repeat (first
    | refine wpAny_loadPart_at lC ?_
    | (refine wpAny_isSubtype_exc lC ?_; rw [c1])
    | refine wpAny_staticBase_exc lC ?_
    | refine wpAny_madeBy_exc lC ?_
    | simp only [bne_self_eq_false, Bool.false_eq_true, if_false]
    | wp_step)
  exact q
end
section
variable {prog : Program} {w : World} {A : Around} {E : Value → Shared → Prop} {R : Result → Shared → Prop} {hp : Heap} {gs : Array GenState} {dr : Drawn} {tk : Nat} {os : OsState}
variable {nA qA : Str} {C NA : Addr} {bsA tl tlB : List Value} {hd ab : Bool} {snA : List Str} {sbA : List Value} {cl : Option Bool} {ddA : Option Addr} {j0 j1 j2 j3 j5 : Option Value} {B newId initId : String}
theorem new_kw (F : ExcBaseFacts B newId initId tlB) (hT : ∀ Y : String, tl.contains (.type Y) = tlB.contains (.type Y)) {us : List Value} {kw : List (Str × Value)}
    (lC : hp.get? C = some (excClassObj nA qA C NA bsA tl hd snA sbA ab cl ddA j0 j1 j2 j3 j5 newId))
    (q : R (.ok (.ret (.ref (hp.objs.size + 1)))) ⟨(hp.push (W.kdv_tup us)).push (excO C hp.objs.size), gs, dr, tk, os⟩) (hl : us.length ≤ sizeLine) :
    codeAny (model prog w) A (.builtin newId ⟨.ref C :: us, kw⟩) R ⟨hp, gs, dr, tk, os⟩ := by
  have c0 := F.ends
  have c1 : (Value.ref C :: tl).contains (.type B) = true := by rw [List.contains_cons, hT, F.hasB, Bool.or_true]
  have c2 : (Value.ref C :: tl).contains (.type "AttributeError") = false := by rw [List.contains_cons, hT, F.noAttr]; rfl
  have c3 : (Value.ref C :: tl).contains (.type "NameError") = false := by rw [List.contains_cons, hT, F.noName]; rfl
  refine codeAny_builtinAt F.entry ?_
  unfold Builtin.«BaseException.__new__»
  refine wpAt_bind ?_
  show wpAt _ _ _ (stack >>= _) _ _ _
  refine wpAt_bind (wpAt_stack fun p1 p2 => wpAt_of_wpAny ?_)
  wp_walk
  refine wpAt_of_wpAny ?_
  rw [F.owner]
  repeat (first
    | with_reducible refine wpAny_madeHere_exc F.canon lC ?_
    | with_reducible refine wpAny_loadPart_at lC ?_
    | (with_reducible refine wpAny_isSubtype_exc lC ?_; first | rw [c1] | rw [c2] | rw [c3])
    | wp_step)
  show R _ _
  rw [Heap.size_push]
  exact q
theorem tcall_kw (F : ExcBaseFacts B newId initId tlB) (hT : ∀ Y : String, tl.contains (.type Y) = tlB.contains (.type Y)) {us : List Value} {kw : List (Str × Value)} {fI : Addr} {Q : Fin → Shared → Prop}
    (lC : hp.get? C = some (excClassObj nA qA C NA bsA tl hd snA sbA ab cl ddA j0 j1 j2 j3 j5 newId))
    (li : W.Looks (model prog w) hp (typeLookup (.ref C) "__init__") (some (.ref fI))) (lb : ∀ self, W.Looks (model prog w) hp (bindSpecial (.ref fI) self) (.ref fI, [self])) (hl : us.length ≤ sizeLine)
    (q : codeAny (model prog w) A (.call (.ref fI) ⟨.ref (hp.objs.size + 1) :: us, kw⟩)
      (fun r s' => match r with | .ok (.ret v) => v = .none ∧ Q (.done (.ret (.ref (hp.objs.size + 1)))) s' | .ok _ => False | .error e => E e s')
      ⟨(hp.push (W.kdv_tup us)).push (excO C hp.objs.size), gs, dr, tk, os⟩) :
    wpAny (model prog w) A (Builtin.«type.__call__» ⟨.ref C :: us, kw⟩) Q E ⟨hp, gs, dr, tk, os⟩ := by
  repeat (first
    | with_reducible refine wpAny_loadPart_at lC ?_
    | with_reducible refine wpAny_madeBy_exc lC ?_
    | wp_step)
  refine codeAny_call_builtin_code (Code.quiet_builtin _ F.quiet) (chk_new F hT lC ?_)
  refine new_kw F hT lC ?_ hl
  show wpAny _ _ _ _ _ _
  have kp : ∀ b o, hp.get? b = some o → ((hp.push (W.kdv_tup us)).push (excO C hp.objs.size)).get? b = some o := fun b o e =>
    Heap.get?_push_of_some _ (Heap.get?_push_of_some _ e)
  have lC1 := kp _ _ lC
  have lE : ((hp.push (W.kdv_tup us)).push (excO C hp.objs.size)).get? (hp.objs.size + 1) = some (excO C hp.objs.size) := by heap_get
  have cC : (Value.ref C :: tl).contains (.ref C) = true := by simp
  have i1 := li.keeps kp
  have b1 := (lb (.ref (hp.objs.size + 1))).keeps kp
  unfold isInstance
  repeat (first
    | with_reducible refine wpAny_loadPart_at lE ?_
    | (with_reducible refine wpAny_isSubtype_exc lC1 ?_; rw [cC])
    | wp_step)
  show wpAny _ _ (typeLookup (.ref C) _) _ _ _
  refine i1.at ?_
  refine wpAny_holding (wpAny_bind (b1.at ?_))
  refine wpAny_bind (wpAny_call (codeAny_mono q fun r s' z => ?_))
  rcases r with e | (v | _ | _ | _) <;> first | exact z | exact z.elim | skip
  obtain ⟨rfl, z⟩ := z
  first
    | exact wpAny_pure (wpAny_pure z)
    | (wp_walk; exact z)
/-- C(..), C an own error class with an own __init__ (fI), keywords among the arguments -/
theorem call_kw (F : ExcBaseFacts B newId initId tlB) (hT : ∀ Y : String, tl.contains (.type Y) = tlB.contains (.type Y)) {us : List Value} {kw : List (Str × Value)} {fI : Addr}
    (lC : hp.get? C = some (excClassObj nA qA C NA bsA tl hd snA sbA ab cl ddA j0 j1 j2 j3 j5 newId))
    (li : W.Looks (model prog w) hp (typeLookup (.ref C) "__init__") (some (.ref fI))) (lb : ∀ self, W.Looks (model prog w) hp (bindSpecial (.ref fI) self) (.ref fI, [self])) (hl : us.length ≤ sizeLine)
    (q : codeAny (model prog w) (A.under (.builtin "type.__call__" ⟨.ref C :: us, kw⟩)) (.call (.ref fI) ⟨.ref (hp.objs.size + 1) :: us, kw⟩) (W.InitBack (hp.objs.size + 1) R)
      ⟨(hp.push (W.kdv_tup us)).push (excO C hp.objs.size), gs, dr, tk, os⟩) :
    codeAny (model prog w) A (.call (.ref C) ⟨us, kw⟩) R ⟨hp, gs, dr, tk, os⟩ := by
  have l1 := tc_lookup
  have l2 := tc_bind (.ref C)
  have tC : (⟨hp, gs, dr, tk, os⟩ : Shared).TypeIs (.ref C) "type" := ⟨_, lC, rfl⟩
  refine codeAny_of_tree ?_
  show wpAny _ _ (callAny (.ref C) _) _ _ _
  repeat (any_goals (first
    | assumption
    | with_reducible refine wpAny_loadPart_at lC ?_
    | wp_step))
  refine ⟨rfl, ?_⟩
  refine codeAny_call_builtin_at (Code.quiet_builtin _ (by decide +kernel)) entry_typeCall (wpAny_check_type_call_sub lC (tcall_kw F hT lC li lb hl ?_))
  refine codeAny_mono q fun r s' z => ?_
  rcases r with e | (v | _ | _ | _) <;> exact z
/-- the first store into an error without a dict -/
theorem osa_new {K : W.Frag} {n : Str} {tn : Tok} {v : Value} {x t0 : Addr} (SF : StoreFacts B tlB "object.__setattr__" "object") (X : K.In hp) (hx : hp.get? x = some (excO C t0)) (ov : W.excOver K C tlB = true) (no : W.takerIn K C n = some none) (hh : W.hasDictIn K C = true)
    (q : ∀ h' tk' dx, (∀ b o, b ≠ x → hp.get? b = some o → h'.get? b = some o) → hp.objs.size ≤ dx → dx ≠ x → h'.get? x = some (W.excObj C t0 (some dx) .none) →
      h'.Ns1 dx (fun y => if y = n then some v else none) → R (.ok (.ret .none)) ⟨h', gs, dr, tk', os⟩) :
    codeAny (model prog w) A (.call (.builtin "object.__setattr__") ⟨[.ref x, .str n tn, v], []⟩) R ⟨hp, gs, dr, tk, os⟩ := by
  have xs : x ≠ hp.objs.size := Nat.ne_of_lt (Heap.lt_size hx)
  refine W.osa_openX (s := ⟨hp, gs, dr, tk, os⟩) (od := none) SF X ⟨hx, rfl, rfl, trivial⟩ ov no fun b => ?_
  obtain ⟨cd, hc, hd'⟩ := W.any_some hh
  refine wpAny_bind (wpAny_pure (wpAny_bind (W.instanceDict_exc (s := ⟨hp, gs, dr, tk, os⟩) hx (W.looks_clsIn X hc) hd' ?_)))
  show wpAny _ _ (storeInDict hp.objs.size (.str n tn) n v) _ _ _
  refine store_in_new ?_ fun h' tk' ns' sb => ?_
  · exact ⟨_, #[], _, (Heap.get?_update_ne _ _ _ _ xs.symm).trans (Heap.get?_push_at rfl rfl), rfl, fun e he => absurd he (by simp), fun _ => rfl⟩
  · have hx1 : (hp.push (W.dictOf [] 0)).get? x = some (excO C t0) := Heap.get?_push_of_some _ hx
    refine q h' tk' hp.objs.size (fun b o hb ho => ?_) (Nat.le_refl _) xs.symm ?_ ns'
    · exact (sb.2 b (Nat.ne_of_lt (Heap.lt_size ho))).trans ((Heap.get?_update_ne _ _ _ _ hb).trans (Heap.get?_push_of_some _ ho))
    · exact (sb.2 x xs).trans (Heap.get?_update_self _ hx1 rfl)
/-- a later store -/
theorem osa_more {K : W.Frag} {n : Str} {tn : Tok} {v : Value} {x t0 dx : Addr} {m0 : Str → Option Value} {nl : List Str} (SF : StoreFacts B tlB "object.__setattr__" "object") (X : K.In hp) (hx : hp.get? x = some (W.excObj C t0 (some dx) .none)) (hns : hp.Ns1 dx m0) (hw : Within m0 nl) (hz : nl.length ≤ 1000)
    (ov : W.excOver K C tlB = true) (no : W.takerIn K C n = some none) (hh : W.hasDictIn K C = true)
    (q : ∀ h' tk', (∀ b o, b ≠ dx → hp.get? b = some o → h'.get? b = some o) → h'.Ns1 dx (fun y => if y = n then some v else m0 y) → R (.ok (.ret .none)) ⟨h', gs, dr, tk', os⟩) :
    codeAny (model prog w) A (.call (.builtin "object.__setattr__") ⟨[.ref x, .str n tn, v], []⟩) R ⟨hp, gs, dr, tk, os⟩ := by
  obtain ⟨oD, _, _, hoD, _, _⟩ := hns.count hw
  refine W.osa_openX (s := ⟨hp, gs, dr, tk, os⟩) (od := some oD) SF X ⟨hx, rfl, rfl, hoD⟩ ov no fun b => ?_
  obtain ⟨cd, hc, hd'⟩ := W.any_some hh
  refine wpAny_bind (wpAny_pure (wpAny_bind (wpAny_bind (wpAny_loadPart hx (wpAny_bind ((W.looks_clsIn X hc).here ?_))))))
  rw [hd']
  refine wpAny_pure (a := some dx) ?_
  refine OEX.store_in_old hns hw hz fun h' tk' ns' sb => ?_
  exact q h' tk' (fun b o hb ho => (sb.2 b hb).trans ho) ns'
end
end XO
set_option maxRecDepth 100000
set_option maxHeartbeats 4000000
namespace XO
open PySem PySem.W PySem.Calls PyProof.Rows PySem.HandSPX
/-! ### the texts of the two kinds of __init__ -/
def a1 (n : Str) (p1 p2 : Pos) : Arguments := { posonlyargs := [], args := [{ arg := "self", annotation := none, pos := p1 }, { arg := n, annotation := none, pos := p2 }], vararg := none, kwonlyargs := [], kw_defaults := [], kwarg := none, defaults := [] }
def b1 (n : Str) (q1 q2 q3 q4 : Pos) : List Stmt := [.Assign [.Attribute (.Name "self" q1) n q2] (.Name n q3) q4]
def s1 (n : Str) : Scope := { kind := .function, names := [(PySem.Str.ofString "self", .local), (n, .local)], isGenerator := false, isCoroutine := false, more := [] }
/-- the fields' names -/
def Nm (n : Str) : Prop := n = "reason" ∨ n = "name" ∨ n = "index" ∨ n = "word"
/-- what the written part says of an error class whose __init__ stores one field -/
structure E1 (K : Frag) (mg : Str → Option Value) (x n : Str) (C fI : Addr) (tlB : List Value) (newId : String) : Prop where
  gC : mg x = some (.ref C)
  nm : Nm n
  em : excInitIn K C tlB newId = true
  ov : excOver K C tlB = true
  hd : hasDictIn K C = true
  sa : findIn K (.ref C) "__setattr__" = some (some (.builtin "object.__setattr__"))
  ga : findIn K (.ref C) "__getattribute__" = some (some (.builtin "BaseException.__getattribute__"))
  gg : findIn K (.ref C) "__getattr__" = some none
  no : takerIn K C n = some none
  nf : findIn K (.ref C) n = some none
  iC : findIn K (.ref C) "__init__" = some (some (.ref fI))
  tC : typeIn K (.ref fI) = some (.type "function")
  kC : keepIn K (.ref C) = true
  exC : subIn K (.ref C) (.type "BaseException") = some true
  fn : ∃ (qn : Str) (oc : Value) (od : Option Addr) (doc pm : Value) (an : Option Addr) (cdv ct : Value) (osl : Array (Option Value)) (p1 p2 q1 q2 q3 q4 : Pos),
    K.lookup fI = some ⟨oc, od, .func (fnOf "__init__" qn (a1 n p1 p2) (b1 n q1 q2 q3 q4) (s1 n) .none .none doc pm an cdv ct), osl⟩ ∧ codeIn K cdv qn = true
/-- the two ways to hand one value in -/
def Gv (n : Str) (v : Value) (us : List Value) (kw : List (Str × Value)) : Prop := (us = [v] ∧ kw = []) ∨ (us = [] ∧ kw = [(n, v)])
structure Made1 (h h' : Heap) (n : Str) (e C d : Addr) (v : Value) : Prop where
  keep : ∀ b o, h.get? b = some o → h'.get? b = some o
  new : h.objs.size ≤ e
  obj : ∃ t0, h'.get? e = some (excObj C t0 (some d) .none)
  dbig : h.objs.size ≤ d
  dne : d ≠ e
  ns : h'.Ns1 d (fun y => if y = n then some v else none)
theorem nameC {M : Model} {s : Shared} {nf : Str} {sc : Scope} {L a : Addr} {cd : Value} {m : Str → Option Value} {y : Str} {pos : Pos} {v : Value} {Q : Value → Shared → Prop} {A : Around} {E : Value → Shared → Prop} (hn : s.heap.Ns L m) (hv : m y = some v) (q : Q v s)
    (hk : sc.kind = .function := by rfl) (hl : (envOfC nf sc L a cd).kindOf y = some .local := by rfl) (hd : (y == ("__debug__" : Str)) = false := by decide) :
    wpAny M A (eval (.Name y pos) (envOfC nf sc L a cd)) Q E s := wpAny_Name (wpAny_loadName_local hk hl hn hv q) hd
section
variable {prog : Program} {w : World} {A : Around} {E : Value → Shared → Prop} {R : Result → Shared → Prop} {s : Shared} {K : Frag} {mg : Str → Option Value} {x n : Str} {C fI : Addr} {B newId initId : String} {tlB : List Value}
theorem init1 (T : E1 K mg x n C fI tlB newId) (SF : StoreFacts B tlB "object.__setattr__" "object") {e t0 : Addr} {v : Value} {us : List Value} {kw : List (Str × Value)} (g : Gv n v us kw) (X : K.In s.heap) (hlim : s.heap.NoLimit) (hx : s.heap.get? e = some (excO C t0)) (hr : A.depth < recursionLimit)
    (q : ∀ h' tk d, (∀ b o, b ≠ e → s.heap.get? b = some o → h'.get? b = some o) → s.heap.objs.size ≤ d → d ≠ e → h'.get? e = some (excObj C t0 (some d) .none) → h'.Ns1 d (fun y => if y = n then some v else none) →
      R (.ok (.ret .none)) { s with heap := h', toks := tk }) :
    codeAny (model prog w) A (.call (.ref fI) ⟨.ref e :: us, kw⟩) R s := by
  obtain ⟨qn, oc, od, doc, pm, an, cdv, ct, osl, p1, p2, q1, q2, q3, q4, ho, hcd⟩ := T.fn
  have hb : BindsTo s (fnOf "__init__" qn (a1 n p1 p2) (b1 n q1 q2 q3 q4) (s1 n) .none .none doc pm an cdv ct) ⟨.ref e :: us, kw⟩ [("self", .ref e), (n, v)] := by
    rcases T.nm with rfl | rfl | rfl | rfl <;> rcases g with ⟨rfl, rfl⟩ | ⟨rfl, rfl⟩ <;> exact BindsTo.of_eq (by first | rfl | with_unfolding_all rfl)
  refine Att.call_fn (binds := [("self", .ref e), (n, v)]) X hlim ho hcd hr hb ?_ (fun s₁ IC => ?_) rfl rfl rfl
  · rcases T.nm with rfl | rfl | rfl | rfl <;> first | rfl | decide | with_unfolding_all rfl
  · obtain ⟨h₁, tk₁, rfl⟩ := IC.toInCall.same
    have k : ∀ b o, s.heap.get? b = some o → h₁.get? b = some o := IC.toInCall.keep
    have hn := IC.toInCall.ns
    have X₁ : K.In h₁ := X.keeps k
    have hx₁ := k _ _ hx
    show wpAny _ _ (execs _ _) _ _ _
    refine wpAny_execs_cons (plainObj_wpAny_Assign_Attribute ?_)
    have kn : (envOfC qn (s1 n) s.heap.objs.size fI cdv).kindOf n = some .local := by
      rcases T.nm with rfl | rfl | rfl | rfl <;> first | rfl | with_unfolding_all rfl
    have ks : (envOfC qn (s1 n) s.heap.objs.size fI cdv).kindOf (Str.ofString "self") = some .local := by
      rcases T.nm with rfl | rfl | rfl | rfl <;> first | rfl | with_unfolding_all rfl
    have dn : (n == ("__debug__" : Str)) = false := by
      rcases T.nm with rfl | rfl | rfl | rfl <;> decide
    have vn : bindL (envOfC qn (s1 n) s.heap.objs.size fI cdv).kindOf [(Str.ofString "self", Value.ref e), (n, v)] (fun _ => none) n = some v := by
      rcases T.nm with rfl | rfl | rfl | rfl <;> first | rfl | with_unfolding_all rfl | kernel_rfl
    have vs : bindL (envOfC qn (s1 n) s.heap.objs.size fI cdv).kindOf [(Str.ofString "self", Value.ref e), (n, v)] (fun _ => none) (Str.ofString "self") = some (.ref e) := by
      rcases T.nm with rfl | rfl | rfl | rfl <;> first | rfl | with_unfolding_all rfl | kernel_rfl
    refine nameC (v := v) hn vn (nameC (v := .ref e) hn vs ?_ rfl ks) rfl kn dn
    refine set_plain X₁ (ox := excO C t0) (od := none) ⟨hx₁, rfl, rfl, trivial⟩ T.sa ?_
    refine osa_new SF X₁ hx₁ T.ov T.no T.hd fun h3 tk3 d k3 big ne hx3 hn3 => ?_
    show wpAny _ _ (execs _ _) _ _ _
    have z : s.heap.objs.size < h₁.objs.size := hn.lt
    exact wpAny_execs_nil (q h3 tk3 d (fun b o hb e => k3 b o hb (k b o e)) (Nat.le_of_lt (Nat.lt_of_lt_of_le z big)) ne hx3 hn3)
theorem made1 (F : ExcBaseFacts B newId initId tlB) (T : E1 K mg x n C fI tlB newId) (SF : StoreFacts B tlB "object.__setattr__" "object") {v : Value} {us : List Value} {kw : List (Str × Value)} (g : Gv n v us kw) (X : K.In s.heap) (hlim : s.heap.NoLimit) (hr : A.depth + 1 < recursionLimit)
    (q : ∀ h' tk e d, Made1 s.heap h' n e C d v → R (.ok (.ret (.ref e))) { s with heap := h', toks := tk }) :
    codeAny (model prog w) A (.call (.ref C) ⟨us, kw⟩) R s := by
  obtain ⟨nA, NA, qA, bsA, tl, hd, snA, sbA, ab, cl, ddA, j0, j1, j2, j3, j5, lC, hT⟩ := excInit_of X T.em
  obtain ⟨hp, gs, dr, tk, os⟩ := s
  have k : ∀ b o, hp.get? b = some o → ((hp.push (kdv_tup us)).push (excO C hp.objs.size)).get? b = some o := fun b o e => Heap.get?_push_of_some _ (Heap.get?_push_of_some _ e)
  have hget : ((hp.push (kdv_tup us)).push (excO C hp.objs.size)).get? (hp.objs.size + 1) = some (excO C hp.objs.size) := by heap_get
  have hl : us.length ≤ sizeLine := by
    rw [sizeLine_eq]
    rcases g with ⟨rfl, _⟩ | ⟨rfl, _⟩ <;> simp
  refine call_kw F hT lC (looks_findIn X T.iC) (fun self => bind_fn X self T.tC) hl ?_
  refine init1 (s := ⟨(hp.push (kdv_tup us)).push (excO C hp.objs.size), gs, dr, tk, os⟩) T SF g (X.keeps k) (hlim.keeps k) hget hr fun h' tk' d k' dn ne hx hns => ?_
  have old : ∀ b o, hp.get? b = some o → h'.get? b = some o := fun b o e => k' b o (Nat.ne_of_lt (Nat.lt_succ_of_lt (Heap.lt_size e))) (k b o e)
  have z : hp.objs.size ≤ d := by
    have y : ((hp.push (kdv_tup us)).push (excO C hp.objs.size)).objs.size ≤ d := dn
    rw [Heap.size_push, Heap.size_push] at y
    omega
  exact ⟨rfl, q h' tk' (hp.objs.size + 1) d ⟨old, Nat.le_succ _, ⟨_, hx⟩, z, ne, hns⟩⟩
end
end XO
set_option maxRecDepth 100000
set_option maxHeartbeats 4000000
namespace XO
open PySem PySem.W PySem.Calls PyProof.Rows PySem.HandSPX
/-! ### the error with two fields -/
def a2 (p1 p2 p3 : Pos) : Arguments := { posonlyargs := [], args := [{ arg := "self", annotation := none, pos := p1 }, { arg := "line", annotation := none, pos := p2 }, { arg := "word", annotation := none, pos := p3 }], vararg := none, kwonlyargs := [], kw_defaults := [], kwarg := none, defaults := [] }
def b2 (q1 q2 q3 q4 r1 r2 r3 r4 : Pos) : List Stmt := [.Assign [.Attribute (.Name "self" q1) "line" q2] (.Name "line" q3) q4, .Assign [.Attribute (.Name "self" r1) "word" r2] (.Name "word" r3) r4]
def s2 : Scope := { kind := .function, names := [(PySem.Str.ofString "self", .local), (PySem.Str.ofString "line", .local), (PySem.Str.ofString "word", .local)], isGenerator := false, isCoroutine := false, more := [] }
structure E2 (K : Frag) (mg : Str → Option Value) (x : Str) (C fI : Addr) (tlB : List Value) (newId : String) : Prop where
  gC : mg x = some (.ref C)
  em : excInitIn K C tlB newId = true
  ov : excOver K C tlB = true
  hd : hasDictIn K C = true
  sa : findIn K (.ref C) "__setattr__" = some (some (.builtin "object.__setattr__"))
  ga : findIn K (.ref C) "__getattribute__" = some (some (.builtin "BaseException.__getattribute__"))
  gg : findIn K (.ref C) "__getattr__" = some none
  noL : takerIn K C "line" = some none
  noW : takerIn K C "word" = some none
  nfL : findIn K (.ref C) "line" = some none
  nfW : findIn K (.ref C) "word" = some none
  iC : findIn K (.ref C) "__init__" = some (some (.ref fI))
  tC : typeIn K (.ref fI) = some (.type "function")
  kC : keepIn K (.ref C) = true
  exC : subIn K (.ref C) (.type "BaseException") = some true
  fn : ∃ (qn : Str) (oc : Value) (od : Option Addr) (doc pm : Value) (an : Option Addr) (cdv ct : Value) (osl : Array (Option Value)) (p1 p2 p3 q1 q2 q3 q4 r1 r2 r3 r4 : Pos),
    K.lookup fI = some ⟨oc, od, .func (fnOf "__init__" qn (a2 p1 p2 p3) (b2 q1 q2 q3 q4 r1 r2 r3 r4) s2 .none .none doc pm an cdv ct), osl⟩ ∧ codeIn K cdv qn = true
def Gv2 (v u : Value) (us : List Value) (kw : List (Str × Value)) : Prop := (us = [v, u] ∧ kw = []) ∨ (us = [] ∧ kw = [(Str.ofString "word", u), (Str.ofString "line", v)])
structure Made2 (h h' : Heap) (e C d : Addr) (v u : Value) : Prop where
  keep : ∀ b o, h.get? b = some o → h'.get? b = some o
  new : h.objs.size ≤ e
  obj : ∃ t0, h'.get? e = some (excObj C t0 (some d) .none)
  dbig : h.objs.size ≤ d
  dne : d ≠ e
  ns : h'.Ns1 d (fun y => if y = "word" then some u else if y = "line" then some v else none)
section
variable {prog : Program} {w : World} {A : Around} {E : Value → Shared → Prop} {R : Result → Shared → Prop} {s : Shared} {K : Frag} {mg : Str → Option Value} {x n : Str} {C fI : Addr} {B newId initId : String} {tlB : List Value}
theorem init2 (T : E2 K mg x C fI tlB newId) (SF : StoreFacts B tlB "object.__setattr__" "object") {e t0 : Addr} {v u : Value} {us : List Value} {kw : List (Str × Value)} (g : Gv2 v u us kw) (X : K.In s.heap) (hlim : s.heap.NoLimit) (hx : s.heap.get? e = some (excO C t0)) (hnx : K.lookup e = none) (hr : A.depth < recursionLimit)
    (q : ∀ h' tk d, (∀ b o, b ≠ e → s.heap.get? b = some o → h'.get? b = some o) → s.heap.objs.size ≤ d → d ≠ e → h'.get? e = some (excObj C t0 (some d) .none) → h'.Ns1 d (fun y => if y = "word" then some u else if y = "line" then some v else none) →
      R (.ok (.ret .none)) { s with heap := h', toks := tk }) :
    codeAny (model prog w) A (.call (.ref fI) ⟨.ref e :: us, kw⟩) R s := by
  obtain ⟨qn, oc, od, doc, pm, an, cdv, ct, osl, p1, p2, p3, q1, q2, q3, q4, r1, r2, r3, r4, ho, hcd⟩ := T.fn
  have hb : BindsTo s (fnOf "__init__" qn (a2 p1 p2 p3) (b2 q1 q2 q3 q4 r1 r2 r3 r4) s2 .none .none doc pm an cdv ct) ⟨.ref e :: us, kw⟩ [("self", .ref e), ("line", v), ("word", u)] := by
    rcases g with ⟨rfl, rfl⟩ | ⟨rfl, rfl⟩ <;> exact BindsTo.of_eq (by first | rfl | with_unfolding_all rfl)
  refine Att.call_fn (binds := [("self", .ref e), ("line", v), ("word", u)]) X hlim ho hcd hr hb (by first | rfl | decide | with_unfolding_all rfl) (fun s₁ IC => ?_) rfl rfl rfl
  obtain ⟨h₁, tk₁, rfl⟩ := IC.toInCall.same
  have k : ∀ b o, s.heap.get? b = some o → h₁.get? b = some o := IC.toInCall.keep
  have hn := IC.toInCall.ns
  have X₁ : K.In h₁ := X.keeps k
  have hx₁ := k _ _ hx
  have z : s.heap.objs.size < h₁.objs.size := hn.lt
  have ze : s.heap.objs.size ≠ e := Nat.ne_of_gt (Heap.lt_size hx)
  show wpAny _ _ (execs _ _) _ _ _
  refine wpAny_execs_cons (plainObj_wpAny_Assign_Attribute ?_)
  refine nameC (v := v) hn (by first | rfl | with_unfolding_all rfl | kernel_rfl) (nameC (v := .ref e) hn (by first | rfl | with_unfolding_all rfl | kernel_rfl) ?_)
  refine set_plain X₁ (ox := excO C t0) (od := none) ⟨hx₁, rfl, rfl, trivial⟩ T.sa ?_
  refine osa_new SF X₁ hx₁ T.ov T.noL T.hd fun h3 tk3 d k3 big ne hx3 hn3 => ?_
  have hn' : h3.Ns s.heap.objs.size _ := hn.at fun o e' => k3 _ o ze e'
  show wpAny _ _ (execs _ _) _ _ _
  refine wpAny_execs_cons (plainObj_wpAny_Assign_Attribute ?_)
  refine nameC (v := u) hn' (by first | rfl | with_unfolding_all rfl | kernel_rfl) (nameC (v := .ref e) hn' (by first | rfl | with_unfolding_all rfl | kernel_rfl) ?_)
  obtain ⟨oD, _, _, hoD, _, _⟩ := hn3.count (Within.cons "line" v Within.nil)
  have X₃ : K.In h3 := fun b o e' => k3 b o (fun z' => by rw [z', hnx] at e'; cases e') (k b o (X b o e'))
  refine set_plain X₃ (ox := excObj C t0 (some d) .none) (od := some oD) ⟨hx3, rfl, rfl, hoD⟩ T.sa ?_
  refine osa_more SF X₃ hx3 hn3 (Within.cons "line" v Within.nil) (by decide) T.ov T.noW T.hd fun h4 tk4 k4 hn4 => ?_
  show wpAny _ _ (execs _ _) _ _ _
  refine wpAny_execs_nil (q h4 tk4 d (fun b o hb e' => k4 b o (Nat.ne_of_lt (Nat.lt_of_lt_of_le (Heap.lt_size (k b o e')) big)) (k3 b o hb (k b o e'))) (Nat.le_of_lt (Nat.lt_of_lt_of_le z big)) ne (k4 e _ ne.symm hx3) hn4)
theorem made2 (F : ExcBaseFacts B newId initId tlB) (T : E2 K mg x C fI tlB newId) (SF : StoreFacts B tlB "object.__setattr__" "object") {v u : Value} {us : List Value} {kw : List (Str × Value)} (g : Gv2 v u us kw) (X : K.In s.heap) (hlim : s.heap.NoLimit) (hr : A.depth + 1 < recursionLimit)
    (q : ∀ h' tk e d, Made2 s.heap h' e C d v u → R (.ok (.ret (.ref e))) { s with heap := h', toks := tk }) :
    codeAny (model prog w) A (.call (.ref C) ⟨us, kw⟩) R s := by
  obtain ⟨nA, NA, qA, bsA, tl, hd, snA, sbA, ab, cl, ddA, j0, j1, j2, j3, j5, lC, hT⟩ := excInit_of X T.em
  obtain ⟨hp, gs, dr, tk, os⟩ := s
  have k : ∀ b o, hp.get? b = some o → ((hp.push (kdv_tup us)).push (excO C hp.objs.size)).get? b = some o := fun b o e => Heap.get?_push_of_some _ (Heap.get?_push_of_some _ e)
  have hget : ((hp.push (kdv_tup us)).push (excO C hp.objs.size)).get? (hp.objs.size + 1) = some (excO C hp.objs.size) := by heap_get
  have hl : us.length ≤ sizeLine := by
    rw [sizeLine_eq]
    rcases g with ⟨rfl, _⟩ | ⟨rfl, _⟩ <;> simp
  have hnx : K.lookup (hp.objs.size + 1) = none := by
    cases e : K.lookup (hp.objs.size + 1) with
    | none => rfl
    | some o =>
      have y : hp.get? (hp.objs.size + 1) = some o := X _ _ e
      exact absurd (Nat.lt_of_succ_lt (Heap.lt_size y)) (Nat.lt_irrefl _)
  refine call_kw F hT lC (looks_findIn X T.iC) (fun self => bind_fn X self T.tC) hl ?_
  refine init2 (s := ⟨(hp.push (kdv_tup us)).push (excO C hp.objs.size), gs, dr, tk, os⟩) T SF g (X.keeps k) (hlim.keeps k) hget hnx hr fun h' tk' d k' dn ne hx hns => ?_
  have old : ∀ b o, hp.get? b = some o → h'.get? b = some o := fun b o e => k' b o (Nat.ne_of_lt (Nat.lt_succ_of_lt (Heap.lt_size e))) (k b o e)
  have z : hp.objs.size ≤ d := by
    have y : ((hp.push (kdv_tup us)).push (excO C hp.objs.size)).objs.size ≤ d := dn
    rw [Heap.size_push, Heap.size_push] at y
    omega
  exact ⟨rfl, q h' tk' (hp.objs.size + 1) d ⟨old, Nat.le_succ _, ⟨_, hx⟩, z, ne, hns⟩⟩
end
/-! ### isinstance: what an error's class says -/
structure EI (K : Frag) (D : Addr) : Prop where
  ga : findIn K (.ref D) "__getattribute__" = some (some (.builtin "BaseException.__getattribute__"))
  gg : findIn K (.ref D) "__getattr__" = some none
  ex : subIn K (.ref D) (.type "BaseException") = some true
  hd : hasDictIn K D = true
  cl : findIn K (.ref D) "__class__" = some (some (.builtin "object.__class__"))
  sp : specialIn K (.builtin "object.__class__") "__get__" = some (some (.builtin "getset_descriptor.__get__"))
  tk : takesIn K (.builtin "object.__class__") = some true
  mr : mroIn K D (.type "object") = some true
section
variable {prog : Program} {w : World} {A : Around} {E : Value → Shared → Prop} {s : Shared} {K : Frag} {x D : Addr} {ox : Obj} {od : Option Obj}
theorem EI.find (T : EI K D) : findObj K D od "__class__" = some (.bind (.builtin "getset_descriptor.__get__") (.builtin "object.__class__")) := by
  obtain ⟨cd, hc, _⟩ := any_some T.hd
  unfold findObj
  rw [hc, Option.bind_some, T.cl, Option.bind_some]
  simp [T.sp, T.tk]
/-- object.__class__ by the exceptions' own __getattribute__ -/
theorem EI.told (T : EI K D) {Q : Value → Shared → Prop} {t : Tok} (X : K.In s.heap) (I : InstAt s.heap x ox D od) (q : Q (.ref D) s) : wpAny (model prog w) A (call (.builtin "BaseException.__getattribute__") [.ref x, .str "__class__" t]) Q E s := by
  have ty := I.type (M := model prog w)
  have err : Looks (model prog w) s.heap (isInstance (.ref x) (.type "BaseException")) true := ty.andThen (looks_subIn X T.ex)
  have fd := looks_find (M := model prog w) X I T.find
  have S := PySem.F.excAttr_ValueError.ga
  obtain ⟨hp, gs, dr, tk, os⟩ := s
  refine wpAny_call (codeAny_call_builtin S.plain PySem.F.entry_bexc_ga ?_)
  refine check_slot (i := "BaseException.__getattribute__") (owner := "BaseException") (n := "__getattribute__") (self := .ref x) (rest := [.str "__class__" t]) (kw := []) (by decide +kernel) (by decide +kernel) err (PySem.F.args_bexc_ga (.ref x) (.str "__class__" t)) ?_
  unfold Builtin.«object.__getattribute__»
  have two : slotArgs "__getattribute__" 1 ⟨[.ref x, .str "__class__" t], []⟩ = pure (Value.ref x, [Value.str "__class__" t]) := by simp only [slotArgs]; rfl
  refine wpAny_bind (wpAny_of_eq two ?_)
  refine wpAny_bind (wpAny_pure ?_)
  refine wpAny_bind (ty.at ?_)
  refine wpAny_bind (fd.at ?_)
  have get : wpAny (model prog w) (A.under (.builtin "BaseException.__getattribute__" ⟨[.ref x, .str "__class__" t], []⟩)) (call (.builtin "getset_descriptor.__get__") [.builtin "object.__class__", .ref x, .ref D]) (fun v s' => v = .ref D ∧ s' = ⟨hp, gs, dr, tk, os⟩) E ⟨hp, gs, dr, tk, os⟩ :=
    wpAny_call (class_get (s := ⟨hp, gs, dr, tk, os⟩) (ox := ox) (od := od) X I T.mr ⟨rfl, rfl⟩)
  show wpAny _ _ (holding [Value.builtin "object.__class__"] (call (.builtin "getset_descriptor.__get__") _) >>= ret) _ _ _
  refine wpAny_bind (wpAny_holding (wpAny_mono get (fun v s' z => ?_) fun _ _ z => z))
  obtain ⟨rfl, rfl⟩ := z
  exact wpAny_pure q
theorem EI.ask (T : EI K D) {Q : Option Value → Shared → Prop} (X : K.In s.heap) (I : InstAt s.heap x ox D od) (q : Q (some (.ref D)) { s with toks := s.toks + 1 }) : wpAny (model prog w) A (getAttr? (.ref x) "__class__") Q E s := by
  obtain ⟨hp, gs, dr, t, os⟩ := s
  have ty := I.type (M := model prog w)
  have ga := looks_findIn (M := model prog w) X T.ga
  have gg := looks_findIn (M := model prog w) X T.gg
  have notObj : (Value.builtin "BaseException.__getattribute__" == Value.builtin "object.__getattribute__") = false := by decide +kernel
  have heapD : onTheHeap (Value.ref D) = true := rfl
  have heapB : onTheHeap (Value.builtin "BaseException.__getattribute__") = false := rfl
  have no1 : (onTheHeap (Value.ref D) && (Value.builtin "BaseException.__getattribute__" == Value.builtin "object.__getattribute__")) = false := by rw [notObj, Bool.and_false]
  have no2 : ∀ b : Bool, (b && onTheHeap (Value.builtin "BaseException.__getattribute__")) = false := fun b => by rw [heapB, Bool.and_false]
  unfold getAttr? getAttrBy? getAttrBy
  refine wpAny_bind (wpAny_mkText (wpAny_bind (wpAny_attempt (wpAny_holding (wpAny_bind (ty.at (wpAny_bind (ga.at ?_))))))))
  show wpAny _ _ (ite ((onTheHeap (Value.ref D) && (Value.builtin "BaseException.__getattribute__" == Value.builtin "object.__getattribute__")) = true) _ _) _ _ _
  rw [no1]
  simp only [Bool.false_eq_true, if_false]
  unfold getAttrByItsOwn hookBefore
  rw [if_pos heapD]
  refine wpAny_bind (gg.at (wpAny_bind (wpAny_attempt (wpAny_holding ?_))))
  unfold callGetattribute
  rw [no2]
  simp only [Bool.false_eq_true, if_false]
  unfold boundAndCalled
  rw [PySem.F.excAttr_ValueError.ga.bind (.ref x)]
  refine wpAny_bind (wpAny_pure ?_)
  refine EI.told (s := ⟨hp, gs, dr, t + 1, os⟩) T X I ?_
  show wpAny _ _ (handedOut (.ref D)) _ _ _
  rw [handedOut_of (v := .ref D) rfl]
  first
    | exact wpAny_pure q
    | exact wpAny_pure (wpAny_pure q)
    | exact wpAny_pure (wpAny_bind (wpAny_pure (wpAny_pure q)))
theorem EI.kit (T : EI K D) : KitX K (.ref x) (.ref D) (fun h => ∃ ox od, InstAt h x ox D od) where
  ty := fun _ _ _ ⟨_, _, I⟩ => I.type
  it := fun _ _ X _ => by
    obtain ⟨cdD, hc, _⟩ := any_some T.hd
    unfold clsIn at hc
    split at hc
    · rename_i c' d' cd' sl' ho
      intro A' Q' E' s' k q
      unfold isType loadHead
      exact wpAny_bind (wpAny_loadPart (k _ _ (X _ _ ho)) (wpAny_pure q))
    · cases hc
  ne := fun h tp dd its n sl X htp => by
    obtain ⟨cdD, hc, _⟩ := any_some T.hd
    refine Bool.eq_false_iff.mpr fun q => ?_
    have e : D = tp := Value.ref.inj (beq_iff_eq.mp q)
    subst e
    unfold clsIn at hc
    split at hc
    · rename_i c' d' cd' sl' ho
      have z := (X _ _ ho).symm.trans htp
      cases z
    · cases hc
  ca := fun X ⟨_, _, I⟩ k => T.ask X I k
end
end XO
set_option maxRecDepth 100000
set_option maxHeartbeats 4000000
namespace XO
open PySem PySem.Spec PyProof.Rows L2
section
variable {X : Cx} {x n : Str} {C fI : Addr} {B newId initId : String} {tlB : List Value} {e : Expr} {te : TE} {kws : List Keyword} {tk : TA} {p pos : Pos}
/-- two new objects at once -/
theorem laid2 {pins : List (Addr × Obj)} {σ : L2.St} {H : Hp} {s : Shared} {h' : Heap} {d a : Addr} {u o : HO} {t' : Nat} (I : Inv X pins σ H s) (k : ∀ b w, s.heap.get? b = some w → h'.get? b = some w) (hd : s.heap.objs.size ≤ d) (ha : s.heap.objs.size ≤ a) (ne : d ≠ a)
    (ou : ∀ G : Heap, (∀ w, h'.get? d = some w → G.get? d = some w) → ObjOk X.prog X.w (upd H d u) G d u) (oo : ObjOk X.prog X.w (upd (upd H d u) a o) h' a o) : Inv X pins σ (upd (upd H d u) a o) { s with heap := h', toks := t' } := by
  obtain ⟨G, g1, g2⟩ := restrict h' fun b => decide (b ≠ a)
  have gk : ∀ b, b ≠ a → G.get? b = h'.get? b := fun b hb => g1 b (decide_eq_true hb)
  have ga : G.get? a = none := g2 a (by simp)
  have lt : ∀ b w, s.heap.get? b = some w → b ≠ a := fun b w q => Nat.ne_of_lt (Nat.lt_of_lt_of_le (Heap.lt_size q) ha)
  have J : Inv X pins σ (upd H d u) ⟨G, s.gens, s.drawn, t', s.os⟩ := I.laid (t' := t') (fun b w q => (gk b (lt b w q)).trans (k b w q)) hd (ou G fun w q => (gk d ne).trans q)
  have na : (upd H d u) a = none := by
    rw [upd_ne ne.symm]
    exact I.hok.fresh ha
  exact J.laidN (t' := t') (fun b w q => by
    by_cases hb : b = a
    · have z : G.get? b = some w := q
      rw [hb, ga] at z
      cases z
    · exact (gk b hb).symm.trans q) ga na oo
theorem made1_inv {pins : List (Addr × Obj)} {σ : L2.St} {H : Hp} {s : Shared} {h' : Heap} {d a : Addr} {v : V} {u : Value} {t' : Nat} (I : Inv X pins σ H s) (r : RelV v u) (M : Made1 s.heap h' n a C d u) :
    Inv X pins σ (upd (upd H d (exd d [(n, v)])) a (exo a C (some d))) { s with heap := h', toks := t' } := by
  obtain ⟨t0, ho⟩ := M.obj
  exact laid2 I M.keep M.dbig M.new M.dne (fun G g => exd_ok (M.ns.at fun w q => g w q) (relO_put (fs := []) r fun _ => True.intro)) (exo_ok ho)
theorem made2_inv {pins : List (Addr × Obj)} {σ : L2.St} {H : Hp} {s : Shared} {h' : Heap} {d a : Addr} {v y : V} {u z : Value} {t' : Nat} (I : Inv X pins σ H s) (r : RelV v u) (ry : RelV y z) (M : Made2 s.heap h' a C d u z) :
    Inv X pins σ (upd (upd H d (exd d [("word", y), ("line", v)])) a (exo a C (some d))) { s with heap := h', toks := t' } := by
  obtain ⟨t0, ho⟩ := M.obj
  exact laid2 I M.keep M.dbig M.new M.dne (fun G g => exd_ok (M.ns.at fun w q => g w q) (relO_put (fs := [("line", v)]) ry (relO_put (fs := []) r fun _ => True.intro))) (exo_ok ho)
/-- C(e) or C(n=e), the error's field named n -/
def tE1 (C : Addr) (n : Str) (ta : TA) : TE := fun σ H Q => ta σ H fun vs H1 => ∃ v, vs = [v] ∧ ∀ d a, H1 d = none → H1 a = none → d ≠ a → Q (.ref a) (upd (upd H1 d (exd d [(n, v)])) a (exo a C (some d)))
/-- C(line, word) -/
def tE2 (C : Addr) (ta : TA) : TE := fun σ H Q => ta σ H fun vs H1 => ∃ v u, vs = [v, u] ∧ ∀ d a, H1 d = none → H1 a = none → d ≠ a → Q (.ref a) (upd (upd H1 d (exd d [("word", u), ("line", v)])) a (exo a C (some d)))
/-- C(word=.., line=..) -/
def tE2k (C : Addr) (ta : TA) : TE := fun σ H Q => ta σ H fun vs H1 => ∃ v u, vs = [u, v] ∧ ∀ d a, H1 d = none → H1 a = none → d ≠ a → Q (.ref a) (upd (upd H1 d (exd d [("word", u), ("line", v)])) a (exo a C (some d)))
/-- C(), an error without fields -/
def tE0 (C : Addr) : TE := fun _ H Q => ∀ a, H a = none → Q (.ref a) (upd H a (exo a C none))
theorem pe_e1 {ta : TA} (F : ExcBaseFacts B newId initId tlB) (SF : StoreFacts B tlB "object.__setattr__" "object") (T : E1 X.K X.mg x n C fI tlB newId) (hr : Room 0 X.A) (hg : Gl X x) (ha : PA X (e :: []) ta)
    (hdb : (x == ("__debug__" : Str)) = false := by decide) (hs : starEach (e :: []) X.env = (false, eval e X.env) :: starEach [] X.env := by rfl) (hpl : (backTo pos (starEach [] X.env)).any (·.1) = false := by rfl) :
    PE X (.Call (.Name x p) [e] [] pos) (tE1 C n ta) := by
  refine ⟨fun pins s σ H Q I h => ?_⟩
  refine wpAny_Call_Name_kw (ld_glob I hg T.gC ?_ hdb)
  refine PySem.W.callWith_K (h₀ := X.base) I.ok.mod.kin T.kC (thn (ha.run pos pins s σ H _ I h) fun us s1 hh => ?_) hs hpl
  obtain ⟨vs, H1, I1, r1, v, rfl, q1⟩ := hh
  refine ⟨I1.kIn, ?_⟩
  obtain ⟨u, rfl, ru⟩ := vals1 r1
  show wpAny _ _ (call (.ref C) [u]) _ _ _
  refine wpAny_call (made1 F T SF (.inl ⟨rfl, rfl⟩) I1.kIn I1.nolimit (by have := hr.dp; omega) fun h' tk' a d M => ?_)
  exact ⟨.ref a, _, made1_inv I1 ru M, rfl, q1 d a (I1.hok.fresh M.dbig) (I1.hok.fresh M.new) M.dne⟩
theorem pe_e1k {ta : TA} (F : ExcBaseFacts B newId initId tlB) (SF : StoreFacts B tlB "object.__setattr__" "object") (T : E1 X.K X.mg x n C fI tlB newId) (hr : Room 0 X.A) (hg : Gl X x) (hk : PK X kws ta)
    (hks : (backToKw pos (keywordEach kws X.env)).filterMap (·.1) = [n] := by rfl) (hall : (backToKw pos (keywordEach kws X.env)).all (·.1.isSome) = true := by rfl) (hdb : (x == ("__debug__" : Str)) = false := by decide)
    (hpl : ((backTo pos (starEach [] X.env)).any (·.1) || (backToKw pos (keywordEach kws X.env)).any (·.1.isNone)) = false := by rfl) :
    PE X (.Call (.Name x p) [] kws pos) (tE1 C n ta) := by
  refine ⟨fun pins s σ H Q I h => ?_⟩
  refine wpAny_Call_Name_kw (ld_glob I hg T.gC ?_ hdb)
  refine PySem.W.callWith_KW0 (h₀ := X.base) I.ok.mod.kin T.kC hall ?_ hpl
  refine thn (hk.run pos pins s σ H _ I h) fun ws s2 ⟨vs, H1, I1, r1, v, e', q1⟩ => ⟨I1.kIn, ?_⟩
  subst e'
  obtain ⟨u, rfl, ru⟩ := vals1 r1
  rw [hks]
  show wpAny _ _ (call (.ref C) [] [(n, u)]) _ _ _
  refine wpAny_call (made1 F T SF (.inr ⟨rfl, rfl⟩) I1.kIn I1.nolimit (by have := hr.dp; omega) fun h' tk' a d M => ?_)
  exact ⟨.ref a, _, made1_inv I1 ru M, rfl, q1 d a (I1.hok.fresh M.dbig) (I1.hok.fresh M.new) M.dne⟩
theorem pe_e2 {ta : TA} {f : Expr} (F : ExcBaseFacts B newId initId tlB) (SF : StoreFacts B tlB "object.__setattr__" "object") (T : E2 X.K X.mg x C fI tlB newId) (hr : Room 0 X.A) (hg : Gl X x) (ha : PA X (e :: [f]) ta)
    (hdb : (x == ("__debug__" : Str)) = false := by decide) (hs : starEach (e :: [f]) X.env = (false, eval e X.env) :: starEach [f] X.env := by rfl) (hpl : (backTo pos (starEach [f] X.env)).any (·.1) = false := by rfl) :
    PE X (.Call (.Name x p) [e, f] [] pos) (tE2 C ta) := by
  refine ⟨fun pins s σ H Q I h => ?_⟩
  refine wpAny_Call_Name_kw (ld_glob I hg T.gC ?_ hdb)
  refine PySem.W.callWith_K (h₀ := X.base) I.ok.mod.kin T.kC (thn (ha.run pos pins s σ H _ I h) fun us s1 hh => ?_) hs hpl
  obtain ⟨vs, H1, I1, r1, v, y, rfl, q1⟩ := hh
  refine ⟨I1.kIn, ?_⟩
  obtain ⟨u, z, rfl, ru, rz⟩ := vals2 r1
  show wpAny _ _ (call (.ref C) [u, z]) _ _ _
  refine wpAny_call (made2 F T SF (.inl ⟨rfl, rfl⟩) I1.kIn I1.nolimit (by have := hr.dp; omega) fun h' tk' a d M => ?_)
  exact ⟨.ref a, _, made2_inv I1 ru rz M, rfl, q1 d a (I1.hok.fresh M.dbig) (I1.hok.fresh M.new) M.dne⟩
theorem pe_e2k {ta : TA} (F : ExcBaseFacts B newId initId tlB) (SF : StoreFacts B tlB "object.__setattr__" "object") (T : E2 X.K X.mg x C fI tlB newId) (hr : Room 0 X.A) (hg : Gl X x) (hk : PK X kws ta)
    (hks : (backToKw pos (keywordEach kws X.env)).filterMap (·.1) = [PySem.Str.ofString "word", PySem.Str.ofString "line"] := by rfl) (hall : (backToKw pos (keywordEach kws X.env)).all (·.1.isSome) = true := by rfl) (hdb : (x == ("__debug__" : Str)) = false := by decide)
    (hpl : ((backTo pos (starEach [] X.env)).any (·.1) || (backToKw pos (keywordEach kws X.env)).any (·.1.isNone)) = false := by rfl) :
    PE X (.Call (.Name x p) [] kws pos) (tE2k C ta) := by
  refine ⟨fun pins s σ H Q I h => ?_⟩
  refine wpAny_Call_Name_kw (ld_glob I hg T.gC ?_ hdb)
  refine PySem.W.callWith_KW0 (h₀ := X.base) I.ok.mod.kin T.kC hall ?_ hpl
  refine thn (hk.run pos pins s σ H _ I h) fun ws s2 ⟨vs, H1, I1, r1, v, y, e', q1⟩ => ⟨I1.kIn, ?_⟩
  subst e'
  obtain ⟨z, u, rfl, rz, ru⟩ := vals2 r1
  rw [hks]
  show wpAny _ _ (call (.ref C) [] [(PySem.Str.ofString "word", z), (PySem.Str.ofString "line", u)]) _ _ _
  refine wpAny_call (made2 F T SF (.inr ⟨rfl, rfl⟩) I1.kIn I1.nolimit (by have := hr.dp; omega) fun h' tk' a d M => ?_)
  exact ⟨.ref a, _, made2_inv I1 ru rz M, rfl, q1 d a (I1.hok.fresh M.dbig) (I1.hok.fresh M.new) M.dne⟩
theorem pe_e0 (F : ExcBaseFacts B newId initId tlB) (q : PySem.W.excIn X.K C tlB newId = true) (gC : X.mg x = some (.ref C)) (kC : PySem.W.keepIn X.K (.ref C) = true) (hg : Gl X x) (hdb : (x == ("__debug__" : Str)) = false := by decide) :
    PE X (.Call (.Name x p) [] [] pos) (tE0 C) := by
  refine ⟨fun pins s σ H Q I h => ?_⟩
  refine wpAny_Call_Name_kw (ld_glob I hg gC ?_ hdb)
  refine PySem.W.callWith_K0 I.kIn kC ?_
  show wpAny _ _ (call (.ref C) []) _ _ _
  obtain ⟨bm, N, nA, qA, bsA, hdA, snA, sbA, ab, cl, dd, j0, j1, j2, j3, j5, mN, hC, hN, hni, T⟩ := exc_obj I.kIn q
  refine wpAny_call_exc_subT F T hC hN hni (fun h' a hm => ?_) (by show 0 ≤ sizeLine; rw [sizeLine_eq]; omega)
  have hn : H a = none := I.hok.gone hm.new
  obtain ⟨t, ht, _, _⟩ := hm.there
  exact ⟨.ref a, upd H a (exo a C none), I.laidN hm.keeps hm.new hn (exo_ok ht), rfl, h a hn⟩
end
/-! ### a field read -/
structure EF (K : PySem.W.Frag) (C : Addr) (f : Str) : Prop where
  ga : PySem.W.findIn K (.ref C) "__getattribute__" = some (some (.builtin "BaseException.__getattribute__"))
  gg : PySem.W.findIn K (.ref C) "__getattr__" = some none
  ex : PySem.W.subIn K (.ref C) (.type "BaseException") = some true
  hd : PySem.W.hasDictIn K C = true
  no : PySem.W.findIn K (.ref C) f = some none
theorem E1.ef {K : PySem.W.Frag} {mg : Str → Option Value} {x n : Str} {C fI : Addr} {tlB : List Value} {newId : String} (T : E1 K mg x n C fI tlB newId) : EF K C n := ⟨T.ga, T.gg, T.exC, T.hd, T.nf⟩
def tEf (K : PySem.W.Frag) (te : TE) (f : Str) : TE := fun σ H Q => te σ H fun y H1 => ∃ (a C d : Addr) (fs : List (Str × V)) (v : V), y = .ref a ∧ H1 a = some (exo a C (some d)) ∧ H1 d = some (exd d fs) ∧ EF K C f ∧ fs.lookup f = some v ∧ Q v H1
section
variable {X : Cx} {e : Expr} {te : TE} {pos : Pos} {f : Str}
theorem pe_ef (he : PE X e te) (hb : attributeBase e f X.env (eval e X.env) = eval e X.env := by rfl) : PE X (.Attribute e f pos) (tEf X.K te f) := by
  refine ⟨fun pins s σ H Q I h => ?_⟩
  refine attr_of hb (thn (he.run pins s σ H _ I h) fun u s1 hh => ?_)
  obtain ⟨y, H1, I1, ry, a, C, d, fs, v, rfl, ea, ed, T, l, q⟩ := hh
  obtain rfl : u = Value.ref a := ry
  obtain ⟨t1, ho⟩ := exo_at I1.hok ea
  obtain ⟨mA, hns, rel⟩ := exd_at I1.hok ed
  obtain ⟨od, hod, hl⟩ := lookIn_ns hns
  obtain ⟨z, hz, rz⟩ := RelO.some_of (v := v) (o := mA f) (by rw [← l]; exact rel f)
  have J : PySem.W.InstAt s1.heap a ({ cls := .ref C, dict := some d, data := .fields #[.ref t1, .none, .none, .none, .bool false, .none] } : Obj) C (some od) := ⟨ho, rfl, rfl, hod⟩
  exact HandSPX.exc_get I1.kIn J T.ga T.gg T.ex (PySem.W.findObj_own T.hd T.no rfl (by rw [hl, hz])) (handed_of rz) ⟨v, H1, I1.tok _, rz, q⟩
/-- isinstance(a, c), a an error object -/
def rIsX (K : PySem.W.Frag) : List V → Hp → VK → Prop := fun xs H Q => ∃ (a D : Addr) (d : Option Addr) (c : V) (cv : Value) (b : Bool), xs = [.ref a, c] ∧ H a = some (exo a D d) ∧ (∀ d', d = some d' → ∃ fs, H d' = some (exd d' fs)) ∧ EI K D ∧ ClsV c cv ∧ PySem.W.kitOne K (.ref D) cv = some b ∧ Q (.bl b) H
theorem call_isX : CallR X (.builtin "isinstance") (rIsX X.K) := by
  intro pins s σ H xs us Q I r h
  obtain ⟨a, D, d, c, cv, b, rfl, ho, hd, T, k, e, q⟩ := h
  obtain ⟨u1, u2, rfl, r1, r2⟩ := vals2 r
  have e2 := k.eq r2
  subst e2
  cases (show u1 = Value.ref a from r1)
  obtain ⟨t1, h1⟩ := exo_at I.hok ho
  have J : ∃ ox od, PySem.W.InstAt s.heap a ox D od := by
    cases d with
    | none => exact ⟨_, none, h1, rfl, rfl, trivial⟩
    | some d' =>
      obtain ⟨fs, e'⟩ := hd d' rfl
      obtain ⟨mA, hns, _⟩ := exd_at I.hok e'
      obtain ⟨od, hod, _⟩ := lookIn_ns hns
      exact ⟨_, some od, h1, rfl, rfl, hod⟩
  exact PySem.W.kia_one T.kit I.kIn J e (fun z => nomatch z) fun tk => ⟨.bl b, H, I.tok tk, rfl, q⟩
end
end XO
set_option maxRecDepth 100000
set_option maxHeartbeats 4000000
namespace XO
open PySem PySem.Spec PyProof.Rows L2
/-! ### data that repr shows: as in Dp, and dicts of one text key -/
mutual
inductive RD (H : Hp) : V → PyData → Prop
  | non : RD H .non .none
  | bl (b : Bool) : RD H (.bl b) (.bool b)
  | int (i : Int) : RD H (.int i) (.int i)
  | str (x : Str) : RD H (.str x) (.str x)
  | lst {a : Addr} {xs : List V} {ds : List PyData} : H a = some (.lst xs) → a ≠ sysModules → RDs H xs ds → RD H (.ref a) (.list ds)
  | tup {a : Addr} {xs : List V} {ds : List PyData} : H a = some (.tup xs) → RDs H xs ds → RD H (.ref a) (.tuple ds)
  | dic {a : Addr} {x : Str} {i : Int} : H a = some (.dK [(Sum.inr x, .int i)]) → RD H (.ref a) (.dict [(.str x, .int i)])
inductive RDs (H : Hp) : List V → List PyData → Prop
  | nil : RDs H [] []
  | cons {v : V} {vs : List V} {d : PyData} {ds : List PyData} : RD H v d → RDs H vs ds → RDs H (v :: vs) (d :: ds)
end
section
variable {X : Cx} {pins : List (Addr × Obj)} {σ : L2.St} {H : Hp} {s : Shared}
mutual
theorem RD.reads (I : Inv X pins σ H s) : ∀ (d : PyData) (v : V) (u : Value), RD H v d → RelV v u → ∃ as, Reads s.heap u d as ∧ sysModules ∉ as
  | .none, _, _, h, r => by
    cases h
    cases r
    exact ⟨_, Reads.none, by simp⟩
  | .bool b, _, _, h, r => by
    cases h
    cases r
    exact ⟨_, Reads.bool b, by simp⟩
  | .int i, _, _, h, r => by
    cases h
    obtain ⟨t, rfl⟩ := r
    exact ⟨_, Reads.int i t, by simp⟩
  | .str x, _, _, h, r => by
    cases h
    obtain ⟨t, rfl⟩ := r
    exact ⟨_, Reads.str x t, by simp⟩
  | .list ds, _, _, h, r => by
    cases h with
    | lst hs hn ha =>
      cases r
      obtain ⟨_, its, n, rv, e⟩ := I.hok _ _ hs
      obtain ⟨as, hr, hm⟩ := RD.readsAll I ds _ its ha rv
      exact ⟨_, Reads.list e rfl rfl hr, by
        intro z
        rcases List.mem_cons.mp z with z | z
        · exact hn z.symm
        · exact hm z⟩
  | .tuple ds, _, _, h, r => by
    cases h with
    | tup hs ha =>
      cases r
      obtain ⟨_, its, rv, o, h1, h2, n, h3⟩ := (show ObjOk X.prog X.w H s.heap _ (.tup _) from I.hok _ _ hs)
      obtain ⟨as, hr, hm⟩ := RD.readsAll I ds _ its ha rv
      exact ⟨_, Reads.tuple h1 h2 h3 hr, hm⟩
  | .dict kvs, _, _, h, r => by
    cases h with
    | @dic a0 x i hs =>
      cases r
      obtain ⟨hz, hn, vs, kv, o, es, ep, h1, hx, h3, hk, pr, nd⟩ := (show ObjOk X.prog X.w H s.heap _ (.dK _) from I.hok _ _ hs)
      cases kv with
      | @cons p0 b l0 r0 k1 k2 =>
        cases k2
        obtain ⟨e1, e2⟩ := k1
        obtain ⟨k, v⟩ := b
        dsimp only at e1 e2
        subst e1
        obtain ⟨t', rfl⟩ := e2
        generalize hl : es.toList = l at pr
        cases pr with
        | @cons en kv0 es0 kvs0 p1 p2 p3 =>
          cases p3
          obtain ⟨t, e3⟩ : ∃ t, en.key = Value.str x t := by
            rcases keyIs_shape (show keyIs (Sum.inr x) en.key = true from p1) with ⟨j, t, z, _⟩ | ⟨y, t, z, w⟩
            · cases z
            · cases z
              exact ⟨t, w⟩
          dsimp only at p2
          refine ⟨_, Reads.dict (kvs := [(.str x, .int i)]) h1 hx.1 h3 (as := []) (bs := []) ?_ ?_, ?_⟩
          · rw [hl]
            show ReadsAll s.heap [en.key] [PyData.str x] []
            rw [e3]
            exact ReadsAll.cons (Reads.str x t) ReadsAll.nil
          · rw [hl]
            show ReadsAll s.heap [en.val] [PyData.int i] []
            rw [p2]
            exact ReadsAll.cons (Reads.int i t') ReadsAll.nil
          · intro z
            rcases List.mem_cons.mp z with z | z
            · rw [← z] at hn
              exact absurd hn (by decide)
            · simp at z
theorem RD.readsAll (I : Inv X pins σ H s) : ∀ (ds : List PyData) (vs : List V) (us : List Value), RDs H vs ds → Vals vs us → ∃ as, ReadsAll s.heap us ds as ∧ sysModules ∉ as
  | [], _, _, h, r => by
    cases h
    cases r
    exact ⟨_, ReadsAll.nil, by simp⟩
  | d :: ds, _, _, h, r => by
    cases h with
    | cons h1 h2 =>
      cases r with
      | cons r1 r2 =>
        obtain ⟨as, q1, m1⟩ := RD.reads I d _ _ h1 r1
        obtain ⟨bs, q2, m2⟩ := RD.readsAll I ds _ _ h2 r2
        exact ⟨_, ReadsAll.cons q1 q2, by
          intro z
          rcases List.mem_append.mp z with z | z
          · exact m1 z
          · exact m2 z⟩
end
/-- repr(x) of such data -/
def rRepr : List V → Hp → VK → Prop := fun xs H Q => ∃ (x : V) (d : PyData), xs = [x] ∧ RD H x d ∧ d.showable = true ∧ d.depth ≤ 64 ∧ d.shown.length ≤ sizeLine ∧ Q (.str d.shown) H
end
section
variable {X : Cx}
theorem call_repr (hg : X.A.guards = some []) (hu : X.A.units + 65 < cLine) : CallR X (.builtin "repr") rRepr := by
  intro pins s σ H xs us Q I r h
  obtain ⟨x, d, rfl, hd, hs, h64, hl, q⟩ := h
  obtain ⟨u, rfl, ru⟩ := vals1 r
  obtain ⟨as, rd, hm⟩ := RD.reads I d x u hd ru
  cases hd with
  | non =>
    cases ru
    exact PySem.P.repr_of_none ⟨.str _, H, I.tok _, ⟨_, rfl⟩, q⟩
  | bl b =>
    cases ru
    refine PySem.P.repr_of_bool ⟨.str _, H, I.tok _, ⟨_, rfl⟩, ?_⟩
    cases b <;> exact q
  | int i =>
    obtain ⟨t, rfl⟩ := ru
    exact PySem.P.repr_of_int (of_decide_eq_true hs) ⟨.str _, H, I.tok _, ⟨_, rfl⟩, q⟩
  | str y =>
    obtain ⟨t, rfl⟩ := ru
    exact PySem.P.repr_of_str ⟨.str _, H, I.tok _, ⟨_, rfl⟩, q⟩ hl
  | lst e n hx =>
    cases ru
    refine repr_of_reads' rd hs (fun _ => hm) hg (by omega) (fun _ _ z => z) (fun h' u tk k => ?_) hl
    exact ⟨.str _, H, I.kept (t' := tk) k, ⟨_, rfl⟩, q⟩
  | tup e hx =>
    cases ru
    refine repr_of_reads' rd hs (fun _ => hm) hg (by omega) (fun _ _ z => z) (fun h' u tk k => ?_) hl
    exact ⟨.str _, H, I.kept (t' := tk) k, ⟨_, rfl⟩, q⟩
  | dic e =>
    cases ru
    refine repr_of_reads' rd hs (fun _ => hm) hg (by omega) (fun _ _ z => z) (fun h' u tk k => ?_) hl
    exact ⟨.str _, H, I.kept (t' := tk) k, ⟨_, rfl⟩, q⟩
end
section
variable {X : Cx} {es : List Expr} {t : TA} {pos : Pos}
/-- [..], and that the list is not sys.modules -/
def tLstN (t : TA) : TE := fun σ H Q => t σ H fun xs H1 => xs.length ≤ sizeLine ∧ ∀ p, H1 p = none → p ≠ sysModules → Q (.ref p) (upd H1 p (.lst xs))
theorem pe_lstN (h : PA X es t) : PE X (.List es pos) (tLstN t) := by
  refine ⟨fun pins s σ H Q I hq => ?_⟩
  refine wpAny_List_spliced (thn (h.run pos pins s σ H _ I hq) fun us s1 w => ?_)
  obtain ⟨xs, H1, I1, r, z, q⟩ := w
  refine ⟨by rw [← r.length]; exact z, ?_⟩
  exact ⟨.ref s1.heap.objs.size, _, I1.lnew (t' := s1.toks) r z, rfl, q _ I1.fresh (Nat.ne_of_gt I1.big)⟩
def rCatN : R2 := fun x y H Q => ∃ l b xs zs, x = .ref l ∧ y = .ref b ∧ H l = some (.lst xs) ∧ H b = some (.lst zs) ∧ xs.length + zs.length ≤ sizeLine ∧ ∀ p, H p = none → p ≠ sysModules → Q (.ref p) (upd H p (.lst (xs ++ zs)))
theorem op_catN : OpR X (binaryOp .Add) rCatN := by
  intro pins s σ H x y v u Q I rx ry h
  obtain ⟨l, b, xs, zs, rfl, rfl, hx, hy, hz, q⟩ := h
  cases rx
  cases ry
  obtain ⟨_, us, n, r, e0, e⟩ := I.lstM hx
  obtain ⟨_, ws, m, r', f0, f⟩ := I.lstM hy
  refine PySem.P.add_list e f ?_ (by rw [List.size_toArray, List.size_toArray, ← e0, ← f0]; exact hz)
  rw [show us.toArray ++ ws.toArray = (us ++ ws).toArray by simp]
  exact ⟨.ref _, _, I.lnew (t' := s.toks) (r.append r') (by rw [List.length_append]; exact hz), rfl, q _ I.fresh (Nat.ne_of_gt I.big)⟩
def rRepN : R2 := fun x y H Q => ∃ l xs k, x = .ref l ∧ y = .int k ∧ H l = some (.lst xs) ∧ 0 ≤ k ∧ k < 1000 ∧ xs.length ≤ 1000 ∧ ∀ p, H p = none → p ≠ sysModules → Q (.ref p) (upd H p (.lst (List.replicate k.toNat xs).flatten))
theorem op_repN : OpR X (binaryOp .Mult) rRepN := by
  intro pins s σ H x y v u Q I rx ry h
  obtain ⟨l, xs, k, rfl, rfl, hx, k0, k1, hl, q⟩ := h
  cases rx
  obtain ⟨t, rfl⟩ := ry
  obtain ⟨_, us, n, r, e0, e⟩ := I.lstM hx
  have sz : us.toArray.size * k.toNat ≤ 1000 * 1000 := by
    rw [List.size_toArray, ← e0]
    exact Nat.mul_le_mul hl (by omega)
  have sl : us.toArray.size * k.toNat ≤ sizeLine := Nat.le_trans sz (by decide)
  have c1 : ¬ us.toArray.size * k.toNat > (2 ^ 63 - 1) / 8 := by
    have : 1000 * 1000 ≤ (2 ^ 63 - 1) / 8 := by decide
    omega
  have c2 : ¬ (!Builtin.List.listFitsIndex k) = true := by
    rw [fitsIndex_both (by omega) (by omega)]
    exact Bool.false_ne_true
  have c3 : ¬ Builtin.List.listTooLong (us.toArray.size * k.toNat) = true := by
    rw [notLongL sl]
    exact Bool.false_ne_true
  have made : List.foldl (fun x1 x2 => x1 ++ x2) #[] (List.replicate (if us.toArray.isEmpty = true then 0 else k.toNat) us.toArray) = (List.replicate k.toNat us).flatten.toArray := by
    have f0 : ∀ m : Nat, List.foldl (fun x1 x2 => x1 ++ x2) #[] (List.replicate m us.toArray) = (List.replicate m us).flatten.toArray := fun m => by
      have z := foldl_rep us m []
      rw [List.nil_append] at z
      exact z
    rw [f0]
    cases us with
    | nil => simp
    | cons a r' => rw [if_neg (by simp)]
  refine wpAny_binaryOp_repeat_ref (T := "list") (U := "int") (by decide) ⟨_, e, rfl⟩ (fun s' => typeIs_int s' k t) noFill_list_mul F.fills_int_mul
    F.slot_int_rmul repeat_list F.slot_int_index.lookup (call_meets F.slot_int_rmul (typeIs_int s k t) F.entry_int_rmul (F.args_int_rmul_2 _ _)
      (int___rmul___int_list k t l us.toArray n) ⟨e, rfl, ⟨_, e, rfl⟩, call_meets F.slot_list_mul ⟨_, e, rfl⟩ F.entry_list_mul (F.args_list_mul_2 _ _)
        (AutoListH.list___mul___list_int_3 l us.toArray n k t c2 c1 c3) ⟨e, ?_⟩⟩)
  rw [made]
  exact ⟨.ref _, _, I.lnew (t' := s.toks) (r.rep k.toNat) (by rw [PyProof.Rows.lm_len_rep_flat, Nat.mul_comm, r.length, ← List.size_toArray]; exact sl), rfl, q _ I.fresh (Nat.ne_of_gt I.big)⟩
end
end XO
set_option maxRecDepth 100000
set_option maxHeartbeats 4000000
/-! The law's own def, entered from its caller alone: there nothing is being shown (repr asks that). -/
namespace XO
open PySem PySem.Spec PyProof.Rows L2
/-- a def entered at one place A, by its body -/
theorem run_at {P : Program} {w : World} {K : PySem.W.Frag} {mg : Str → Option Value} {base : Heap} {k : Nat} {f : Addr} {x0 qn : Str} {pr : Arguments} {bd : List Stmt} {sc : Scope} {dV kV doc pm cdv ct oc : Value} {an od : Option Addr} {sl : Array (Option Value)} {N ps : List Str}
    (lk : K.lookup f = some ⟨oc, od, .func (PySem.W.fnOf x0 qn pr bd sc dV kV doc pm an cdv ct), sl⟩) (hcd : PySem.W.codeIn K cdv qn = true) (S : FnScope N ps sc) {A : Around} {outer : List Env} {s : Shared} {H : Hp} {args : Args} {us : List Value} {vs : List V} {Q : VK} {E : XK}
    (hr : Room (k + 1) A) (e0 : Env0 P w K mg base A outer s H) (hb : BindsTo s (PySem.W.fnOf x0 qn pr bd sc dV kV doc pm an cdv ct) args (ps.zip us)) (r : Vals vs us) (hl : vs.length = ps.length)
    (body : Room k (A.deeper (envOfC qn sc s.heap.objs.size f cdv)) → ∃ t, PSs (cxOf CX0 P w K mg base N qn sc f cdv A outer s H E).nox bd t ∧ t { nx := fun _ H' => Q .non H', rt := Q } (start N vs) H) :
    codeAny (model P w) A (.call (.ref f) args) (CR CX0 outer P w H s Q E) s := by
  have X0 : K.In s.heap := e0.mod.kin.keeps fun b o e => (e0.bs b o e).1
  have lim : s.heap.NoLimit := e0.mod.nolimit.keeps fun b o e => (e0.bs b o e).1
  refine codeAny_call_function hr.depth (X0 _ _ lk) rfl S.co S.gen rfl (PySem.W.codeRec_of X0 hcd) (hb _ _ _ _ ?_)
  refine wpAny_newFunctionEnv_cells S.kind (fun z hz => ?_) fun env he s1 y => ?_
  · rcases S.par z.1 (List.of_mem_zip (show (z.1, z.2) ∈ ps.zip us from hz)).1 with c | c
    · exact .inl c
    · exact .inr ⟨c, PySem.W.cellsFrom_some _ _ _ (.inl c)⟩
  · subst he
    obtain ⟨t, ht, hq⟩ := body (hr.deeper _)
    refine ⟨lim.keeps y.toInCall.keep, codeAny_func ?_⟩
    have I := inv_start (CX := CX0) (E := E) S hr.hd e0 hl r y
    refine wpAny_mono (ht.nox.run [] s1 (start N vs) H _ I hq) (fun fl s' hs => ?_) fun e s' hs => hs
    cases fl with
    | ret u =>
      obtain ⟨v, σ', H', J, rv, q⟩ := hs
      exact ⟨v, H', J.os, J.bare, J.base, J.hok, rv, q⟩
    | next =>
      obtain ⟨σ', H', J, q⟩ := hs
      exact ⟨V.non, H', J.os, J.bare, J.base, J.hok, rfl, q⟩
    | brk =>
      obtain ⟨_, _, _, q⟩ := hs
      exact q.elim
    | cont =>
      obtain ⟨_, _, _, q⟩ := hs
      exact q.elim
/-! ### the start: which abstract heap the script stands in -/
section
variable {P : Program} {w : World} {K : PySem.W.Frag} {mg mb : Str → Option Value} {f a : Addr} {s₁ s' : Shared} {vs : List Value} {ns : List Int} {H H' : Hp} {CX : CXT}
/-- H tracks at most the script at a, known to its object -/
structure Starts (P : Program) (w : World) (K : PySem.W.Frag) (a : Addr) (ns : List Int) (s₁ : Shared) (H : Hp) : Prop where
  only : Only H
  sq : SqL K H a (ns.map V.int)
  ok : HOk P w H s₁.heap
  at_ : ∀ b u, H b = some u → b = a ∧ K.lookup a = none
theorem starts_ex (X0 : K.In s₁.heap) (ha : s₁.heap.get? a = some { cls := .type "list", data := .seq vs.toArray }) (hi : IntsAre vs ns) (hl : ns.length ≤ sizeLine) : ∃ H, Starts P w K a ns s₁ H := by
  have vi := vals_ints hi
  match hk : K.lookup a with
  | some o =>
    cases ha.symm.trans (X0 a o hk)
    exact ⟨fun _ => none, fun _ => .inl rfl, .inr ⟨_, _, _, hk, rfl, rfl, rfl, by rw [List.size_toArray, hi.length]; exact hl, by simpa using vi⟩, nofun, nofun⟩
  | none =>
    let it : HO := .frz { cls := .type "list", data := .seq vs.toArray } (.lst (ns.map V.int))
    have here : ∀ b u, (fun b => if b = a then some it else none) b = some u → b = a ∧ u = it := fun b u z => by
      by_cases hb : b = a
      · exact ⟨hb, (Option.some.inj ((if_pos hb).symm.trans z)).symm⟩
      · exact nomatch (if_neg hb).symm.trans z
    refine ⟨fun b => if b = a then some it else none, fun b => ?_, .inl (.inr ⟨_, if_pos rfl⟩), fun b u z => ?_, fun b u z => ⟨(here b u z).1, hk⟩⟩
    · cases e : (fun b => if b = a then some it else none) b with
      | none => exact .inl e
      | some u => exact .inr ⟨_, _, e.trans (congrArg some (here b u e).2)⟩
    · obtain ⟨rfl, rfl⟩ := here b u z
      exact ⟨ha, (by rw [List.length_map]; exact hl), vs, _, vi, ha⟩
theorem Starts.none_of (S : Starts P w K a ns s₁ H) {b : Addr} (h : b = a → K.lookup a = none → False) : H b = none :=
  Option.eq_none_iff_forall_ne_some.mpr fun u z => h (S.at_ b u z).1 (S.at_ b u z).2
theorem Starts.env (S : Starts P w K a ns s₁ H) (X0 : K.In s₁.heap) (G : s₁.heap.Ns mainGlobals mg) (Gb : s₁.heap.Ns builtinsNs mb) (bb : ∀ x : Str, x ≠ "__name__" → mb x = bootBuiltins x) (lim : s₁.heap.NoLimit) (g0 : s₁.gens = #[])
    (ha : s₁.heap.get? a = some { cls := .type "list", data := .seq vs.toArray }) : K.In (hidT s₁.heap H) ∧ (hidT s₁.heap H).Ns mainGlobals mg ∧ Env0 P w K mg (hidT s₁.heap H) callerA [] s₁ H := by
  have names : ∀ {b : Addr} {m : Str → Option Value}, s₁.heap.Ns b m → (hidT s₁.heap H).Ns b m := fun ⟨o, es, ep, e, d, z⟩ => by
    refine ⟨o, es, ep, hidT_get e (S.none_of fun q _ => ?_), d, z⟩
    cases (q ▸ e).symm.trans ha
    exact nomatch (show Data.seq vs.toArray _ = Data.dict es ep from d)
  have own : K.In (hidT s₁.heap H) := fun b o e => hidT_get (X0 b o e) (S.none_of fun q n => nomatch (q ▸ e : K.lookup a = some o).symm.trans n)
  obtain ⟨mc, l1, l2⟩ := lim
  exact ⟨own, names G, rfl, ⟨own, names G, ⟨mb, names Gb, bb⟩, mc, names l1, l2⟩, fun _ _ => of_hidT, Nat.le_of_eq (hidT_size _ _), trivial, nofun, S.ok, .of_eq g0⟩
/-- what stood at the start stands at the end -/
theorem Starts.stays (S : Starts P w K a ns s₁ H) (un : Un (frs []) [] H H' s₁.heap s'.heap) (ok : HOk P w H' s'.heap) : OldK s₁.heap s'.heap := OldK.of_keep fun b o e => by
  match q : H b with
  | none => exact un.keep b o e q nofun nofun
  | some u =>
    obtain ⟨ob, xs, y⟩ := (S.only b).resolve_left (by rw [q]; nofun)
    cases e.symm.trans (S.ok b _ y).1
    exact (ok b _ (un.frzs b _ _ y)).1
/-- the law's call: the def at f gives True from wherever the script's list stands -/
theorem law_atC (X0 : K.In s₁.heap) (G : s₁.heap.Ns mainGlobals mg) (Gb : s₁.heap.Ns builtinsNs mb) (bb : ∀ x : Str, x ≠ "__name__" → mb x = bootBuiltins x) (lim : s₁.heap.NoLimit) (g0 : s₁.gens = #[])
    (ha : s₁.heap.get? a = some { cls := .type "list", data := .seq vs.toArray }) (hi : IntsAre vs ns) (hl : ns.length ≤ sizeLine) (hCX : ∀ H e s', CX [] H s₁ (fun _ _ _ => False) e s' → False)
    (F : ∀ (base : Heap) (H : Hp), K.In base → base.Ns mainGlobals mg → Env0 P w K mg base callerA [] s₁ H → Only H → SqL K H a (ns.map V.int) →
      codeAny (model P w) callerA (.call (.ref f) ⟨[.ref a], []⟩) (CR CX [] P w H s₁ (fun v _ => v = .bl true) fun _ _ _ => False) s₁) :
    codeAny (model P w) callerA (.call (.ref f) ⟨[.ref a], []⟩) (fun r s' => r = .ok (.ret (.bool true)) ∧ OldK s₁.heap s'.heap ∧ s'.os = s₁.os ∧ AllBare s'.gens) s₁ := by
  obtain ⟨H, S⟩ := starts_ex (P := P) (w := w) X0 ha hi hl
  obtain ⟨k, g, e0⟩ := S.env X0 G Gb bb lim g0 ha
  refine codeAny_mono (F _ H k g e0 S.only S.sq) ?_
  rintro (e | fl) s' z
  · exact (hCX H e s' z).elim
  · cases fl with
    | ret u =>
      obtain ⟨_, H', os, bare, un, ok, ru, rfl⟩ := z
      exact ⟨congrArg (fun v => Except.ok (Flow.ret v)) ru, S.stays un ok, os, bare⟩
    | _ => exact False.elim z
theorem law_at (X0 : K.In s₁.heap) (G : s₁.heap.Ns mainGlobals mg) (Gb : s₁.heap.Ns builtinsNs mb) (bb : ∀ x : Str, x ≠ "__name__" → mb x = bootBuiltins x) (lim : s₁.heap.NoLimit) (g0 : s₁.gens = #[])
    (ha : s₁.heap.get? a = some { cls := .type "list", data := .seq vs.toArray }) (hi : IntsAre vs ns) (hl : ns.length ≤ sizeLine)
    (F : ∀ (base : Heap) (H : Hp), K.In base → base.Ns mainGlobals mg → Env0 P w K mg base callerA [] s₁ H → Only H → SqL K H a (ns.map V.int) →
      codeAny (model P w) callerA (.call (.ref f) ⟨[.ref a], []⟩) (CR CX0 [] P w H s₁ (fun v _ => v = .bl true) fun _ _ _ => False) s₁) :
    codeAny (model P w) callerA (.call (.ref f) ⟨[.ref a], []⟩) (fun r s' => r = .ok (.ret (.bool true)) ∧ OldK s₁.heap s'.heap ∧ s'.os = s₁.os ∧ AllBare s'.gens) s₁ := law_atC (CX := CX0) X0 G Gb bb lim g0 ha hi hl (fun _ _ _ z => z) F
end
end XO
set_option maxRecDepth 100000
set_option maxHeartbeats 4000000
/-! What an expression gives, where all that is known stays known: Grow, Stb, EvP. -/
namespace LP
open PySem PySem.Spec PyProof.Rows L2
abbrev Grow (H H' : Hp) : Prop := ∀ b o, H b = some o → H' b = some o
theorem grow_rfl {H : Hp} : Grow H H := fun _ _ h => h
theorem Grow.tr {H H1 H2 : Hp} (a : Grow H H1) (b : Grow H1 H2) : Grow H H2 := fun c o h => b c o (a c o h)
theorem grow_new {H : Hp} {p : Addr} {o : HO} (h : H p = none) : Grow H (upd H p o) := fun a u e => by
  rw [upd_ne (ne_of_none e h)]
  exact e
abbrev PV := V → Hp → Prop
def Stb (P : PV) : Prop := ∀ v H H', Grow H H' → P v H → P v H'
def EvP (te : TE) (σ : L2.St) (H : Hp) (P : PV) : Prop := ∀ H1, Grow H H1 → ∀ Q : VK, (∀ v H2, Grow H1 H2 → P v H2 → Q v H2) → te σ H1 Q
def AllP : List PV → List V → Hp → Prop
  | [], [], _ => True
  | P :: Ps, v :: vs, H => P v H ∧ AllP Ps vs H
  | _, _, _ => False
def StbA : List PV → Prop
  | [] => True
  | P :: Ps => Stb P ∧ StbA Ps
theorem AllP.grow : ∀ {Ps : List PV} {vs : List V} {H H' : Hp}, StbA Ps → Grow H H' → AllP Ps vs H → AllP Ps vs H'
  | [], [], _, _, _, _, _ => trivial
  | _ :: _, _ :: _, _, _, ⟨s, t⟩, g, ⟨a, b⟩ => ⟨s _ _ _ g a, AllP.grow t g b⟩
theorem AllP.len : ∀ {Ps : List PV} {vs : List V} {H : Hp}, AllP Ps vs H → vs.length = Ps.length
  | [], [], _, _ => rfl
  | _ :: _, _ :: _, _, ⟨_, b⟩ => congrArg Nat.succ (AllP.len b)
theorem AllP.app : ∀ {Ps Qs : List PV} {vs ws : List V} {H : Hp}, AllP Ps vs H → AllP Qs ws H → AllP (Ps ++ Qs) (vs ++ ws) H
  | [], _, [], _, _, _, b => b
  | _ :: _, _, _ :: _, _, _, ⟨x, y⟩, b => ⟨x, AllP.app y b⟩
theorem AllP.at : ∀ {Ps : List PV} {vs : List V} {H : Hp} {i : Nat} {P : PV}, AllP Ps vs H → Ps[i]? = some P → ∃ v, vs[i]? = some v ∧ P v H
  | _ :: _, v :: _, _, 0, _, ⟨x, _⟩, e => by
    cases e
    exact ⟨v, rfl, x⟩
  | _ :: Ps, _ :: vs, _, i + 1, P, ⟨_, y⟩, e => AllP.at (i := i) y e
theorem StbA.app : ∀ {Ps Qs : List PV}, StbA Ps → StbA Qs → StbA (Ps ++ Qs)
  | [], _, _, b => b
  | _ :: _, _, ⟨x, y⟩, b => ⟨x, StbA.app y b⟩
def EvPs (ta : TA) (σ : L2.St) (H : Hp) (Ps : List PV) : Prop := ∀ H1, Grow H H1 → ∀ Q : List V → Hp → Prop, (∀ vs H2, Grow H1 H2 → AllP Ps vs H2 → Q vs H2) → ta σ H1 Q
/-- a list (a tuple) of such values, not sys.modules where that is asked -/
def LstP (Ps : List PV) : PV := fun v H => ∃ (p : Addr) (xs : List V), v = .ref p ∧ H p = some (.lst xs) ∧ AllP Ps xs H
def LstN (Ps : List PV) : PV := fun v H => ∃ (p : Addr) (xs : List V), v = .ref p ∧ p ≠ sysModules ∧ H p = some (.lst xs) ∧ AllP Ps xs H
def IsP (v : V) : PV := fun u _ => u = v
theorem stb_is {v : V} : Stb (IsP v) := fun _ _ _ _ h => h
theorem stb_lst {Ps : List PV} (s : StbA Ps) : Stb (LstP Ps) := fun _ _ _ g ⟨p, xs, e, h, a⟩ => ⟨p, xs, e, g _ _ h, a.grow s g⟩
theorem stb_lstN {Ps : List PV} (s : StbA Ps) : Stb (LstN Ps) := fun _ _ _ g ⟨p, xs, e, n, h, a⟩ => ⟨p, xs, e, n, g _ _ h, a.grow s g⟩
section
variable {K : PySem.W.Frag} {σ : L2.St} {H H' : Hp} {te ta tb : TE} {tl : TA} {P R : PV} {Ps Qs : List PV} {v : V} {i : Nat}
theorem EvP.grow (e : Grow H H') (h : EvP te σ H P) : EvP te σ H' P := fun H1 g Q q => h H1 (e.tr g) Q q
theorem evp_var (h : σ[i]? = some (some v)) (p : P v H) (s : Stb P) : EvP (tVar i) σ H P := fun H1 g Q q => ⟨v, h, q v H1 grow_rfl (s _ _ _ g p)⟩
theorem evp_c : EvP (tC v) σ H (IsP v) := fun H1 _ Q q => q v H1 grow_rfl rfl
theorem EvPs.nil : EvPs tNil σ H [] := fun H1 _ Q q => q [] H1 grow_rfl trivial
theorem EvPs.cons (s : Stb P) (h : EvP te σ H P) (t : EvPs tl σ H Ps) : EvPs (tCons te tl) σ H (P :: Ps) := fun H1 g Q q => h H1 g _ fun x H2 g2 px => t H2 (g.tr g2) _ fun xs H3 g3 pxs => q _ H3 (g2.tr g3) ⟨s _ _ _ g3 px, pxs⟩
theorem evp_lst (n : Ps.length ≤ 1000) (h : EvPs tl σ H Ps) (s : StbA Ps) : EvP (tLst tl) σ H (LstP Ps) := fun H1 g Q q => h H1 g _ fun xs H2 g2 px =>
  ⟨Nat.le_trans (Nat.le_of_eq px.len) (Nat.le_trans n (by decide)), fun p hp => q _ _ (g2.tr (grow_new hp)) ⟨p, xs, rfl, upd_same, px.grow s (grow_new hp)⟩⟩
theorem evp_lstN (n : Ps.length ≤ 1000) (h : EvPs tl σ H Ps) (s : StbA Ps) : EvP (XO.tLstN tl) σ H (LstN Ps) := fun H1 g Q q => h H1 g _ fun xs H2 g2 px =>
  ⟨Nat.le_trans (Nat.le_of_eq px.len) (Nat.le_trans n (by decide)), fun p hp np => q _ _ (g2.tr (grow_new hp)) ⟨p, xs, rfl, np, upd_same, px.grow s (grow_new hp)⟩⟩
theorem evp_cat (n : Ps.length + Qs.length ≤ 1000) (h : EvP ta σ H (LstP Ps)) (t : EvP tb σ H (LstP Qs)) (s : StbA Ps) (s' : StbA Qs) : EvP (tOp rCat ta tb) σ H (LstP (Ps ++ Qs)) := fun H1 g Q q =>
  h H1 g _ fun x H2 g2 ⟨p, xs, ex, hp, ap⟩ => t H2 (g.tr g2) _ fun y H3 g3 ⟨p', ys, ey, hp', ap'⟩ => by
    subst ex ey
    refine ⟨p, p', xs, ys, rfl, rfl, g3 _ _ hp, hp', ?_, fun z hz => q _ _ ((g2.tr g3).tr (grow_new hz)) ⟨z, _, rfl, upd_same, ((ap.grow s g3).app ap').grow (s.app s') (grow_new hz)⟩⟩
    rw [ap.len, ap'.len]
    exact Nat.le_trans n (by decide)
theorem evp_catN (n : Ps.length + Qs.length ≤ 1000) (h : EvP ta σ H (LstP Ps)) (t : EvP tb σ H (LstP Qs)) (s : StbA Ps) (s' : StbA Qs) : EvP (tOp XO.rCatN ta tb) σ H (LstN (Ps ++ Qs)) := fun H1 g Q q =>
  h H1 g _ fun x H2 g2 ⟨p, xs, ex, hp, ap⟩ => t H2 (g.tr g2) _ fun y H3 g3 ⟨p', ys, ey, hp', ap'⟩ => by
    subst ex ey
    refine ⟨p, p', xs, ys, rfl, rfl, g3 _ _ hp, hp', ?_, fun z hz nz => q _ _ ((g2.tr g3).tr (grow_new hz)) ⟨z, _, rfl, nz, upd_same, ((ap.grow s g3).app ap').grow (s.app s') (grow_new hz)⟩⟩
    rw [ap.len, ap'.len]
    exact Nat.le_trans n (by decide)
theorem LstN.lst (v : V) (H : Hp) (h : LstN Ps v H) : LstP Ps v H := by
  obtain ⟨p, xs, e, _, r⟩ := h
  exact ⟨p, xs, e, r⟩
theorem EvP.imp (m : ∀ v H, P v H → R v H) (h : EvP te σ H P) : EvP te σ H R := fun H1 g Q q => h H1 g Q fun v H2 g2 p => q v H2 g2 (m v H2 p)
/-- an item of a list at a written place -/
theorem evp_ix {k : Int} {j : Nat} (h : EvP ta σ H (LstP Ps)) (e : k = (j : Int)) (hj : Ps[j]? = some P) : EvP (tOp (rIxL K) ta (tC (.int k))) σ H P := fun H1 g Q q =>
  h H1 g _ fun x H2 g2 ⟨p, xs, ex, hp, ap⟩ => by
    subst ex
    obtain ⟨v, hv, pv⟩ := ap.at hj
    exact ⟨p, xs, k, v, rfl, rfl, SqL.of hp, by rw [e]; exact atI_nat hv, q v H2 g2 pv⟩
theorem st_setP {D : Ends} (h : EvP te σ H P) (q : ∀ v H', Grow H H' → P v H' → D.nx (σ.set i (some v)) H') : tAsg te (gName i) D σ H := h H grow_rfl _ fun v H2 g p => q v H2 g p
theorem sq_set {D : Ends} {u : TS} (h : EvP te σ H P) (q : ∀ v H', Grow H H' → P v H' → u D (σ.set i (some v)) H') : tSeq (tAsg te (gName i)) u D σ H := h H grow_rfl _ fun v H2 g p => q v H2 g p
theorem st_retP {D : Ends} (h : EvP te σ H P) (q : ∀ v H', Grow H H' → P v H' → D.rt v H') : tRet te D σ H := h H grow_rfl _ fun v H2 g p => q v H2 g p
end
end LP
set_option maxRecDepth 100000
set_option maxHeartbeats 4000000
namespace B1
open PySem PySem.Spec PyProof.Rows L2
def top (i : Nat) : Stmt := PySem.Challenge.pw_betweenfaces_k01_errors_and_their_fields.main.body.getD i (.Pass ⟨0, 0, 0, 0⟩)
abbrev sPen : Stmt := top 23
abbrev sDraw : Stmt := top 24
/-- what stands may change at p alone -/
def But (p : Addr) (H H' : Hp) : Prop := ∀ a o, a ≠ p → H a = some o → H' a = some o
theorem But.refl {p : Addr} {H : Hp} : But p H H := fun _ _ _ h => h
theorem But.trans {p : Addr} {H H1 H2 : Hp} (x : But p H H1) (y : But p H1 H2) : But p H H2 := fun a o n h => y a o n (x a o n h)
theorem But.new {p q : Addr} {H : Hp} {o : HO} (h : H q = none) : But p H (upd H q o) := fun a u _ e => by
  rw [upd_ne (ne_of_none e h)]
  exact e
theorem But.put {p : Addr} {H : Hp} {o : HO} : But p H (upd H p o) := fun a u n e => by
  rw [upd_ne n]
  exact e
/-- the pen at p: the script's numbers, at l; how many were read; what is left of a large one -/
structure PenAt (H : Hp) (p l : Addr) (ns : List Int) (k r : Int) : Prop where
  pen : H p = some (.lst [.ref l, .int k, .int r])
  lst : H l = some (.lst (ns.map V.int))
  ne : l ≠ p
  len : ns.length ≤ 63
  k0 : 0 ≤ k
theorem PenAt.but {H H' : Hp} {p l : Addr} {ns : List Int} {k r k' r' : Int} (P : PenAt H p l ns k r) (b : But p H H') (h : H' p = some (.lst [.ref l, .int k', .int r'])) (h0 : 0 ≤ k') : PenAt H' p l ns k' r' := ⟨h, b l _ P.ne P.lst, P.ne, P.len, h0⟩
/-- what the names of the built-ins stand for -/
structure Bl (mg : Str → Option Value) : Prop where
  list : mg "list" = none
  int : mg "int" = none
  len : mg "len" = none
  abs : mg "abs" = none
def spPen (K : PySem.W.Frag) : Sp := fun vs H Q _ => ∃ (a : Addr) (ns : List Int), vs = [.ref a] ∧ SqL K H a (ns.map V.int) ∧ ns.length ≤ 63 ∧
  ∀ (p l : Addr) (H' : Hp), H p = none → (∀ b o, H b = some o → H' b = some o) → PenAt H' p l ns 0 0 → Q (.ref p) H'
def spDraw : Sp := fun vs H Q _ => ∃ (p l : Addr) (ns : List Int) (k r many : Int), vs = [.ref p, .int many] ∧ PenAt H p l ns k r ∧ k ≤ 10000 ∧ 0 < many ∧ many < 2 ^ 200 ∧
  ∀ (d k' r' : Int) (H' : Hp), 0 ≤ d → d < many → k' ≤ k + 1 → But p H H' → PenAt H' p l ns k' r' → Q (.int d) H'
theorem cut63 {ns : List Int} (h : ns.length ≤ 63) : cutV (ns.map V.int) none (some 63) = ns.map V.int := by
  unfold cutV
  rw [HT.sIx_none, show (some (63 : Int)) = some ((63 : Nat) : Int) from rfl, HT.sIx_nat, List.drop_zero, List.length_map]
  exact List.take_of_length_le (by rw [List.length_map]; omega)
theorem dpInts {K : PySem.W.Frag} {H : Hp} : ∀ ns : List Int, DpAll K H (ns.map V.int) (ns.map PyData.int)
  | [] => .nil
  | n :: r => .cons (.int n) (dpInts r)
theorem canInts : ∀ ns : List Int, PyData.canLayAll0 (ns.map PyData.int) = true
  | [] => rfl
  | n :: r => by
    show (PyData.canLay0 (PyData.int n) && PyData.canLayAll0 (r.map PyData.int)) = true
    rw [canInts r]
    rfl
theorem depInts : ∀ ns : List Int, PyData.depthAll (ns.map PyData.int) = 0
  | [] => rfl
  | n :: r => by
    show max (PyData.depth (PyData.int n)) (PyData.depthAll (r.map PyData.int)) = 0
    rw [depInts r]
    rfl
theorem shInts {ns : List Int} : SeqAt.shaped (PyData.list (ns.map PyData.int)) = true := by
  unfold SeqAt.shaped
  rw [show PyData.canLay0 (PyData.list (ns.map PyData.int)) = true from canInts ns]
  refine decide_eq_true ?_
  show PyData.depthAll (ns.map PyData.int) + 1 ≤ 64
  rw [depInts ns]
  decide
theorem fm0 {i j : Int} (h : 0 < j) : 0 ≤ i.fmod j := by
  rw [Int.fmod_eq_emod_of_nonneg _ (Int.le_of_lt h)]
  exact Int.emod_nonneg _ (Int.ne_of_gt h)
theorem fm1 {i j : Int} (h : 0 < j) : i.fmod j < j := by
  rw [Int.fmod_eq_emod_of_nonneg _ (Int.le_of_lt h)]
  exact Int.emod_lt_of_pos _ h
section
variable {P : Program} {w : World} {K : PySem.W.Frag} {mg : Str → Option Value} {base : Heap}
theorem scPen : FnScope ["_law_script"] ["_law_script"] (defScope sPen) := ⟨rfl, rfl, rfl, by decide +kernel, rfl, by decide +kernel, by decide +kernel⟩
theorem ok_pen {f : Addr} {fd : FuncData} (F : Fun K "_law_pen" "_law_pen" sPen f fd) (T : Bl mg) : FnOk P w K mg base CX0 1 f fd ["_law_script"] (spPen K) := by
  refine F.ok scPen (fun vs H Q E h => ?_) (fun cdv A outer s H vs Q E hr h => ?_)
  · obtain ⟨a, ns, rfl, _⟩ := h
    rfl
  · obtain ⟨a, ns, rfl, hS, hl, k⟩ := h
    refine ⟨_, pss_one (ps_ret (pe_lst (pa_cons (pe_callTy call_list_of (by rfl) T.list (by decide +kernel) (pa_cons (pe_slice sl_list (pv 0) po_none (po_some pe_int)) pa_nil)) (pa_cons pe_int (pa_cons pe_int pa_nil))))), ?_⟩
    refine ⟨_, rfl, _, rfl, a, _, rfl, hS, fun c hc => ?_⟩
    refine ⟨c, _, rfl, .inl (SqL.of upd_same), fun l hl' => ?_⟩
    refine ⟨(by show 3 ≤ sizeLine; decide), fun p hp => ?_⟩
    rw [cut63 hl] at hl' hp ⊢
    have nlc : l ≠ c := fun e => by
      rw [e, upd_same] at hl'
      cases hl'
    have npl : p ≠ l := fun e => by
      rw [e, upd_same] at hp
      cases hp
    have npc : p ≠ c := fun e => by
      rw [upd_ne npl, e, upd_same] at hp
      cases hp
    rw [upd_ne nlc] at hl'
    rw [upd_ne npl, upd_ne npc] at hp
    refine k p l _ hp (fun b o e => ?_) ⟨upd_same, by rw [upd_ne npl.symm, upd_same], npl.symm, hl, by decide⟩
    rw [upd_ne (ne_of_none e hp), upd_ne (ne_of_none e hl'), upd_ne (ne_of_none e hc)]
    exact e
theorem scDraw : FnScope ["_law_pen_here", "_law_many", "_law_digit", "_law_at", "_law_cell", "_law_large", "_law_mixed"] ["_law_pen_here", "_law_many"] (defScope sDraw) := ⟨rfl, rfl, rfl, by decide +kernel, rfl, by decide +kernel, by decide +kernel⟩
theorem ok_draw {f : Addr} {fd : FuncData} (F : Fun K "_law_draw" "_law_draw" sDraw f fd) (T : Bl mg) : FnOk P w K mg base CX0 1 f fd ["_law_pen_here", "_law_many"] spDraw := by
  refine F.ok scDraw (fun vs H Q E h => ?_) (fun cdv A outer s H vs Q E hr h => ?_)
  · obtain ⟨p, l, ns, k, r, many, rfl, _⟩ := h
    rfl
  · obtain ⟨p, l, ns, k, r, many, rfl, hP, hk, hm0, hm1, q⟩ := h
    have nd := scDraw.nd
    refine ⟨_, (pss_cons
        (ps_if (pt_cmpR op_gt (pe_ix ix_list (pv 0) pe_int (fun _ _ => rfl)) pe_int (nomark _))
          (pss_cons
            (ps_set (i := 2) nd rfl (Or.inl rfl) (pe_op op_modN (pe_callTy call_int1 (by rfl) T.int (by decide +kernel) (pa_cons (pe_ix ix_list (pv 0) pe_int (fun _ _ => rfl)) pa_nil)) (pv 1)))
          (pss_cons
            (ps_asg (pe_op op_fdivW (pe_callTy call_int1 (by rfl) T.int (by decide +kernel) (pa_cons (pe_ix ix_list (pv 0) pe_int (fun _ _ => rfl)) pa_nil)) (pv 1)) (pg_sub (pv 0) pe_int set_list))
          (pss_one
            (ps_ret (pv 2)))))
          pss_nil)
      (pss_cons
        (ps_set (i := 3) nd rfl (Or.inl rfl) (pe_ix ix_list (pv 0) pe_int (fun _ _ => rfl)))
      (pss_cons
        (ps_asg (pe_op op_add (pv 3) pe_int) (pg_sub (pv 0) pe_int set_list))
      (pss_cons
        (ps_set (i := 4) nd rfl (Or.inl rfl) (pe_op op_add (pe_op op_mul pe_int (pv 3)) pe_int))
      (C8.pss_cut
        (ps_if (pt_cmpR (op_neD hr.units) (pe_ix ix_list (pv 0) pe_int (fun _ _ => rfl)) (pe_lst pa_nil) (nomark _))
          (pss_one
            (ps_set (i := 4) nd rfl (Or.inl rfl) (pe_ix ix_list (pe_ix ix_list (pv 0) pe_int (fun _ _ => rfl)) (pe_op op_modN (pe_callTy call_int1 (by rfl) T.int (by decide +kernel) (pa_cons (pv 3) pa_nil)) (pe_callB call_len_seq (by rfl) T.len PySem.boot_len (pa_cons (pe_ix ix_list (pv 0) pe_int (fun _ _ => rfl)) pa_nil))) (fun _ _ => rfl))))
          pss_nil)
      (pss_cons
        (ps_if (PW.pt (pw_and (pt_cmpR op_lt (pv 3) (pe_callB call_len_seq (by rfl) T.len PySem.boot_len (pa_cons (pe_ix ix_list (pv 0) pe_int (fun _ _ => rfl)) pa_nil)) (nomark _)) (pw_and1 (pt_cmpR op_ge (pe_callB call_abs (by rfl) T.abs (by decide +kernel) (pa_cons (pv 4) pa_nil)) (pe_op op_pow pe_int pe_int) (nomark _)))))
          (pss_cons
            (ps_set (i := 5) nd rfl (Or.inl rfl) (pe_op op_add (pe_op op_mul pe_int (pe_callB call_abs (by rfl) T.abs (by decide +kernel) (pa_cons (pv 4) pa_nil))) (pe_callTy call_int1 (by rfl) T.int (by decide +kernel) (pa_cons (pe_cmpR op_lt (pv 4) pe_int (nomark _)) pa_nil))))
          (pss_cons
            (ps_asg (pe_op op_fdivW (pv 5) (pv 1)) (pg_sub (pv 0) pe_int set_list))
          (pss_one
            (ps_ret (pe_op op_modN (pe_callTy call_int1 (by rfl) T.int (by decide +kernel) (pa_cons (pv 5) pa_nil)) (pv 1))))))
          pss_nil)
      (pss_cons
        (ps_set (i := 6) nd rfl (Or.inl rfl) (pe_op op_modN (pe_callTy call_int1 (by rfl) T.int (by decide +kernel) (pa_cons (pe_op op_pow (pe_op op_add (pe_op op_add (pe_op op_modN (pe_callTy call_int1 (by rfl) T.int (by decide +kernel) (pa_cons (pv 4) pa_nil)) pe_int) (pe_op op_mul pe_int (pv 3))) pe_int) pe_int) pa_nil)) pe_int))
      (pss_cons
        (ps_set (i := 6) nd rfl (Or.inl rfl) (pe_op op_modN (pe_callTy call_int1 (by rfl) T.int (by decide +kernel) (pa_cons (pe_op op_pow (pe_op op_add (pe_op op_add (pe_op op_mul (pv 6) (pe_op op_add (pe_op op_mul pe_int (pv 3)) pe_int)) (pe_op op_mul (pe_op op_mul pe_int (pv 3)) (pv 3))) pe_int) pe_int) pa_nil)) pe_int))
      (pss_one
        (ps_ret (pe_op op_modN (pe_callTy call_int1 (by rfl) T.int (by decide +kernel) (pa_cons (pe_op op_fdiv (pv 6) pe_int) pa_nil)) (pv 1)))))))))))), ?_⟩
    have ix : ∀ {σ : L2.St} {H : Hp} {k r : Int} {i : Int} {v : V}, H p = some (.lst [.ref l, .int k, .int r]) → σ[0]? = some (some (.ref p)) → atI [V.ref l, .int k, .int r] i = some v → Val (tOp (rIxL K) (tVar 0) (tC (.int i))) σ H v :=
      fun h0 h h1 => val_op (val_var h) val_c fun Q q => ⟨p, _, _, _, rfl, rfl, SqL.of h0, h1, q⟩
    have int1 : ∀ {te : TE} {σ : L2.St} {H : Hp} {i : Int}, Val te σ H (.int i) → Val (tCB (fun xs H Q => (∃ i, xs = [.int i] ∧ Q (.int i) H) ∨ ∃ k, xs = [.bl k] ∧ Q (.int (if k then 1 else 0)) H) (tCons te tNil)) σ H (.int i) :=
      fun h Q q => h _ (.inl ⟨_, rfl, q⟩)
    show tSeq _ _ _ [some (V.ref p), some (V.int many), none, none, none, none, none] H
    refine st_seq ?_
    by_cases c1 : 0 < r
    · refine st_yes (ans_gt (ix hP.pen rfl rfl) (decide_eq_true c1)) ?_
      refine st_seq (st_set (val_op (int1 (ix hP.pen rfl rfl)) (val_var rfl) fun Q q => ⟨_, _, rfl, rfl, by omega, q⟩) ?_)
      refine st_seq ?_
      refine val_op (int1 (ix hP.pen rfl rfl)) (val_var rfl) (fun Q q => ⟨_, _, rfl, rfl, wide_div hm0 (b := 200) (by omega) (by decide) (by decide), q⟩) _ ?_
      refine ⟨_, rfl, _, _, _, _, rfl, rfl, hP.pen, rfl, ?_⟩
      refine st_ret (val_var rfl) ?_
      exact q _ _ _ _ (by rw [Int.fmod_eq_emod_of_nonneg _ (by omega)]; exact Int.emod_nonneg _ (by omega)) (by rw [Int.fmod_eq_emod_of_nonneg _ (by omega)]; exact Int.emod_lt_of_pos _ hm0) (by omega) But.put (hP.but But.put upd_same hP.k0)
    refine st_no (ans_gt (ix hP.pen rfl rfl) (decide_eq_false c1)) ?_
    refine st_seq (st_set (ix hP.pen rfl rfl) ?_)
    refine st_seq ?_
    refine val_op (val_var rfl) val_c (fun Q q => ⟨_, _, rfl, rfl, q⟩) _ ?_
    refine ⟨_, rfl, _, _, _, _, rfl, rfl, hP.pen, rfl, ?_⟩
    have hP1 : PenAt (upd H p (.lst [.ref l, .int (k + 1), .int r])) p l ns (k + 1) r := hP.but But.put upd_same (by have := hP.k0; omega)
    have b1 : But p H (upd H p (.lst [.ref l, .int (k + 1), .int r])) := But.put
    show tSeq _ _ _ _ (upd H p (.lst [.ref l, .int (k + 1), .int r]))
    generalize upd H p (.lst [.ref l, .int (k + 1), .int r]) = H1 at hP1 b1 ⊢
    refine st_seq (st_set (val_op (val_op val_c (val_var rfl) fun Q q => ⟨_, _, rfl, rfl, .inl (by decide), q⟩) val_c fun Q q => ⟨_, _, rfl, rfl, q⟩) ?_)
    refine ⟨fun σ H' => ∃ c : Int, σ = [some (V.ref p), some (V.int many), none, some (V.int k), some (V.int c), none, none] ∧ But p H H' ∧ PenAt H' p l ns (k + 1) r, ?_, ?_⟩
    · refine ix hP1.pen rfl rfl _ ?_
      refine ⟨(by show 0 ≤ sizeLine; decide), fun z hz => ?_⟩
      have b2 : But p H (upd H1 z (.lst [])) := b1.trans (But.new hz)
      have nzp : p ≠ z := ne_of_none hP1.pen hz
      have hP2 : PenAt (upd H1 z (.lst [])) p l ns (k + 1) r := hP1.but (But.new hz) (by rw [upd_ne nzp]; exact hP1.pen) hP1.k0
      refine ⟨_, _, .lst (SqL.of hP2.lst) (dpInts ns), .lst (SqL.of upd_same) .nil, shInts, by decide, _, rfl, ?_⟩
      cases ns with
      | nil =>
        refine iteF ?_
        exact ⟨_, rfl, b2, hP2⟩
      | cons n0 nr =>
        refine iteT ?_
        have hpos : (0 : Int) < (((n0 :: nr).map V.int).length : Int) := by rw [List.length_map, List.length_cons]; omega
        obtain ⟨j, hj, e⟩ : ∃ j : Nat, j < (n0 :: nr).length ∧ k.fmod (((n0 :: nr).map V.int).length : Int) = (j : Int) := by
          refine ⟨(k.fmod (((n0 :: nr).map V.int).length : Int)).toNat, ?_, ?_⟩
          · rw [Int.fmod_eq_emod_of_nonneg _ (Int.le_of_lt hpos)]
            have h1 := Int.emod_lt_of_pos k hpos
            have h2 := Int.emod_nonneg k (Int.ne_of_gt hpos)
            rw [List.length_map] at h1 h2 ⊢
            omega
          · rw [Int.fmod_eq_emod_of_nonneg _ (Int.le_of_lt hpos)]
            have h2 := Int.emod_nonneg k (Int.ne_of_gt hpos)
            omega
        refine st_set (val_op (ix hP2.pen rfl rfl) (val_op (int1 (val_var rfl)) (fun Q q => ix hP2.pen rfl rfl _ ⟨l, _, rfl, .inl (SqL.of hP2.lst), q⟩) fun Q q => ⟨_, _, rfl, rfl, Int.ne_of_gt hpos, q⟩) fun Q q => ⟨l, _, _, _, rfl, rfl, SqL.of hP2.lst, by rw [e]; exact atI_nat (by rw [List.getElem?_map, List.getElem?_eq_getElem hj]; rfl), q⟩) ?_
        exact ⟨_, rfl, b2, hP2⟩
    · rintro σ H' ⟨c, rfl, b2, hP2⟩
      have hk0 := hP.k0
      have hA : Ans (tTest (tOp (rI0 fun i j => V.bl (decide (i < j))) (tVar 3) (tCB (fun xs H Q => ∃ p ys, xs = [V.ref p] ∧ (SqL K H p ys ∨ SqT K H p ys) ∧ Q (V.int ↑ys.length) H) (tCons (tOp (rIxL K) (tVar 0) (tC (.int 0))) tNil))))
          [some (V.ref p), some (V.int many), none, some (V.int k), some (V.int c), none, none] H' (decide (k < ((ns.map V.int).length : Int))) :=
        ans_cmp (val_var rfl) (fun Q q => ix hP2.pen rfl rfl _ ⟨l, _, rfl, .inl (SqL.of hP2.lst), q⟩) fun Q q => ⟨_, _, rfl, rfl, q⟩
      have hB : Ans (tTest (tOp (rI0 fun i j => V.bl (decide (j ≤ i))) (tCB (fun xs H Q => ∃ i, xs = [V.int i] ∧ Q (V.int (if i < 0 then -i else i)) H) (tCons (tVar 4) tNil)) (tOp (rI CPow fun i j => V.int (i ^ j.toNat)) (tC (V.int 10)) (tC (V.int 18)))))
          [some (V.ref p), some (V.int many), none, some (V.int k), some (V.int c), none, none] H' (decide ((10 : Int) ^ (18 : Int).toNat ≤ if c < 0 then -c else c)) :=
        ans_cmp (fun Q q => val_var rfl _ ⟨c, rfl, q⟩) (val_op val_c val_c fun Q q => ⟨_, _, rfl, rfl, ⟨by decide, by decide, by decide⟩, q⟩) fun Q q => ⟨_, _, rfl, rfl, q⟩
      refine st_seq ?_
      cases e : (decide (k < ((ns.map V.int).length : Int)) && decide ((10 : Int) ^ (18 : Int).toNat ≤ if c < 0 then -c else c)) with
      | true =>
        refine st_yes ((ans_and2 hA hB).to e) ?_
        refine st_seq (st_set (val_op (val_op val_c (fun Q q => val_var rfl _ ⟨c, rfl, q⟩) fun Q q => ⟨_, _, rfl, rfl, .inl (by decide), q⟩) (fun Q q => val_op (val_var rfl) val_c (fun Q q => ⟨_, _, rfl, rfl, q⟩) _ (.inr ⟨_, rfl, q⟩)) fun Q q => ⟨_, _, rfl, rfl, q⟩) ?_)
        refine st_seq ?_
        refine val_op (val_var rfl) (val_var rfl) (fun Q q => ⟨_, _, rfl, rfl, wide_div hm0 (b := 200) (by omega) (by decide) (by decide), q⟩) _ ?_
        refine ⟨_, rfl, _, _, _, _, rfl, rfl, hP2.pen, rfl, ?_⟩
        refine st_ret (val_op (int1 (val_var rfl)) (val_var rfl) fun Q q => ⟨_, _, rfl, rfl, by omega, q⟩) ?_
        exact q _ _ _ _ (fm0 hm0) (fm1 hm0) (Int.le_refl _) (b2.trans But.put) (hP2.but But.put upd_same hP2.k0)
      | false =>
        refine st_no ((ans_and2 hA hB).to e) ?_
        have f0 := fm0 (i := c) (j := 2147483549) (by decide)
        have f1 := fm1 (i := c) (j := 2147483549) (by decide)
        refine st_seq (st_set (val_op (int1 (val_op (val_op (val_op (val_op (int1 (val_var rfl)) val_c fun Q q => ⟨_, _, rfl, rfl, by show (2147483549 : Int) ≠ 0; decide, q⟩) (val_op val_c (val_var rfl) fun Q q => ⟨_, _, rfl, rfl, .inl (by decide), q⟩) fun Q q => ⟨_, _, rfl, rfl, q⟩) val_c fun Q q => ⟨_, _, rfl, rfl, q⟩) val_c
          fun Q q => ⟨_, _, rfl, rfl, ⟨by decide, by decide, by omega⟩, q⟩)) val_c fun Q q => ⟨_, _, rfl, rfl, by show (2147483629 : Int) ≠ 0; decide, q⟩) ?_)
        have g0 := fm0 (i := (c.fmod 2147483549 + 40013 * k + 31) ^ (5 : Int).toNat) (j := 2147483629) (by decide)
        have g1 := fm1 (i := (c.fmod 2147483549 + 40013 * k + 31) ^ (5 : Int).toNat) (j := 2147483629) (by decide)
        show tSeq _ _ _ [some (V.ref p), some (V.int many), none, some (V.int k), some (V.int c), none, some (V.int (((c.fmod 2147483549 + 40013 * k + 31) ^ (5 : Int).toNat).fmod 2147483629))] H'
        generalize ((c.fmod 2147483549 + 40013 * k + 31) ^ (5 : Int).toNat).fmod 2147483629 = m at g0 g1 ⊢
        have p0 : 0 ≤ m * (2 * k + 17) := Int.mul_nonneg g0 (by omega)
        have p1 : m * (2 * k + 17) ≤ 2147483629 * 20017 := Int.mul_le_mul (by omega) (by omega) (by omega) (by decide)
        have p2 : 0 ≤ 50021 * k * k := Int.mul_nonneg (by omega) hk0
        have p3 : 50021 * k * k ≤ 50021 * 10000 * 10000 := Int.mul_le_mul (by omega) hk hk0 (by decide)
        refine st_seq (st_set (val_op (int1 (val_op (val_op (val_op (val_op (val_var rfl) (val_op (val_op val_c (val_var rfl) fun Q q => ⟨_, _, rfl, rfl, .inl (by decide), q⟩) val_c fun Q q => ⟨_, _, rfl, rfl, q⟩) fun Q q => ⟨_, _, rfl, rfl, .inl (by omega), q⟩)
          (val_op (val_op val_c (val_var rfl) fun Q q => ⟨_, _, rfl, rfl, .inl (by decide), q⟩) (val_var rfl) fun Q q => ⟨_, _, rfl, rfl, .inl (by omega), q⟩) fun Q q => ⟨_, _, rfl, rfl, q⟩) val_c fun Q q => ⟨_, _, rfl, rfl, q⟩) val_c
          fun Q q => ⟨_, _, rfl, rfl, ⟨by decide, by decide, by omega⟩, q⟩)) val_c fun Q q => ⟨_, _, rfl, rfl, by show (2147483587 : Int) ≠ 0; decide, q⟩) ?_)
        refine st_ret (val_op (int1 (val_op (val_var rfl) val_c fun Q q => ⟨_, _, rfl, rfl, ⟨by decide, by decide⟩, q⟩)) (val_var rfl) fun Q q => ⟨_, _, rfl, rfl, by omega, q⟩) ?_
        exact q _ _ _ _ (fm0 hm0) (fm1 hm0) (Int.le_refl _) b2 hP2
end
end B1
set_option maxRecDepth 100000
set_option maxHeartbeats 4000000
namespace B1
open PySem PySem.Spec PyProof.Rows L2 LP XO
abbrev sValue : Stmt := top 25
abbrev sAbove : Stmt := top 26
abbrev sClasses : Stmt := top 27
abbrev sMade : Stmt := top 28
abbrev sFields : Stmt := top 29
abbrev sLaw : Stmt := top 30
/-- an error object of the class at Ca, with these fields (or none) -/
def Er (Ca : Addr) (fs : Option (List (Str × V))) : PV := fun v H => ∃ (a : Addr) (d : Option Addr), v = .ref a ∧ H a = some (exo a Ca d) ∧ (match fs with | none => d = none | some l => ∃ d', d = some d' ∧ H d' = some (exd d' l))
theorem stb_er {Ca : Addr} {fs : Option (List (Str × V))} : Stb (Er Ca fs) := fun v H H' g h => by
  obtain ⟨a, d, e, o, r⟩ := h
  refine ⟨a, d, e, g _ _ o, ?_⟩
  cases fs with
  | none => exact r
  | some l =>
    obtain ⟨d', e', o'⟩ := r
    exact ⟨d', e', g _ _ o'⟩
section
variable {K : PySem.W.Frag} {σ : L2.St} {H : Hp} {te tf : TE} {Ca : Addr} {n f : Str} {v u : V} {l : List (Str × V)} {fs : Option (List (Str × V))}
theorem evp_e0 : EvP (tE0 Ca) σ H (Er Ca none) := fun H1 g Q q a ha => q _ _ (grow_new ha) ⟨a, none, rfl, upd_same, rfl⟩
theorem er_new {H : Hp} {d a : Addr} (hd : H d = none) (ha : H a = none) (ne : d ≠ a) : Grow H (upd (upd H d (exd d l)) a (exo a Ca (some d))) ∧ Er Ca (some l) (.ref a) (upd (upd H d (exd d l)) a (exo a Ca (some d))) :=
  ⟨fun b o e => by rw [upd_ne (ne_of_none e ha), upd_ne (ne_of_none e hd)]; exact e, a, some d, rfl, upd_same, d, rfl, by rw [upd_ne ne, upd_same]⟩
theorem evp_e1 (h : EvP te σ H (IsP v)) : EvP (tE1 Ca n (tCons te tNil)) σ H (Er Ca (some [(n, v)])) := fun H1 g Q q => h H1 g _ fun x H2 g2 e => by
  cases (show x = v from e)
  exact ⟨v, rfl, fun d a hd ha ne => q _ _ (g2.tr (er_new hd ha ne).1) (er_new hd ha ne).2⟩
theorem evp_e2 (h : EvP te σ H (IsP v)) (t : EvP tf σ H (IsP u)) : EvP (tE2 Ca (tCons te (tCons tf tNil))) σ H (Er Ca (some [("word", u), ("line", v)])) := fun H1 g Q q => h H1 g _ fun x H2 g2 e => t H2 (g.tr g2) _ fun y H3 g3 e' => by
  cases (show x = v from e)
  cases (show y = u from e')
  exact ⟨v, u, rfl, fun d a hd ha ne => q _ _ ((g2.tr g3).tr (er_new hd ha ne).1) (er_new hd ha ne).2⟩
theorem evp_e2k (h : EvP te σ H (IsP u)) (t : EvP tf σ H (IsP v)) : EvP (tE2k Ca (tCons te (tCons tf tNil))) σ H (Er Ca (some [("word", u), ("line", v)])) := fun H1 g Q q => h H1 g _ fun x H2 g2 e => t H2 (g.tr g2) _ fun y H3 g3 e' => by
  cases (show x = u from e)
  cases (show y = v from e')
  exact ⟨v, u, rfl, fun d a hd ha ne => q _ _ ((g2.tr g3).tr (er_new hd ha ne).1) (er_new hd ha ne).2⟩
theorem evp_ef (h : EvP te σ H (Er Ca (some l))) (T : EF K Ca f) (hl : l.lookup f = some v) : EvP (tEf K te f) σ H (IsP v) := fun H1 g Q q => h H1 g _ fun x H2 g2 ⟨a, d, e, o, d', e', o'⟩ => by
  subst e e'
  exact ⟨a, Ca, d', l, v, rfl, o, o', T, hl, q v H2 g2 rfl⟩
theorem evp_isi {c : V} {cv : Value} {b : Bool} (h : EvP te σ H (Er Ca fs)) (T : EI K Ca) (k : ClsV c cv) (e : PySem.W.kitOne K (.ref Ca) cv = some b) : EvP (tCB (rIsX K) (tCons te (tCons (tC c) tNil))) σ H (IsP (.bl b)) := fun H1 g Q q => h H1 g _ fun x H2 g2 ⟨a, d, ex, o, r⟩ => by
  subst ex
  refine ⟨a, Ca, d, c, cv, b, rfl, o, fun d' ed => ?_, T, k, e, q _ H2 g2 rfl⟩
  cases fs with
  | none =>
    rw [show d = none from r] at ed
    cases ed
  | some l =>
    obtain ⟨d2, e2, o2⟩ := r
    rw [ed] at e2
    cases e2
    exact ⟨l, o2⟩
end
theorem lk_l {u v : V} : ([("word", u), ("line", v)] : List (Str × V)).lookup ("line" : Str) = some v := by
  first | rfl | with_unfolding_all rfl | kernel_rfl
theorem lk_w {u v : V} : ([("word", u), ("line", v)] : List (Str × V)).lookup ("word" : Str) = some u := by
  first | rfl | with_unfolding_all rfl | kernel_rfl
/-- what the top has written of the classes -/
structure Tx (K : PySem.W.Frag) (mg : Str → Option Value) (C I : Nat → Addr) (CF CM : Addr) : Prop where
  g0 : mg "InvalidRatio" = some (.ref (C 0))
  x0 : PySem.W.excIn K (C 0) [.type "ValueError", .type "Exception", .type "BaseException", .type "object"] "ValueError.__new__" = true
  k0 : PySem.W.keepIn K (.ref (C 0)) = true
  g1 : mg "NoQuotient" = some (.ref (C 1))
  x1 : PySem.W.excIn K (C 1) [.type "ValueError", .type "Exception", .type "BaseException", .type "object"] "ValueError.__new__" = true
  k1 : PySem.W.keepIn K (.ref (C 1)) = true
  g2 : mg "InvalidAxis" = some (.ref (C 2))
  e2 : E1 K mg "InvalidAxis" "reason" (C 2) (I 2) [.type "ValueError", .type "Exception", .type "BaseException", .type "object"] "ValueError.__new__"
  g3 : mg "InvalidSetting" = some (.ref (C 3))
  e3 : E1 K mg "InvalidSetting" "name" (C 3) (I 3) [.type "ValueError", .type "Exception", .type "BaseException", .type "object"] "ValueError.__new__"
  g4 : mg "InvalidRoom" = some (.ref (C 4))
  e4 : E1 K mg "InvalidRoom" "name" (C 4) (I 4) [.type "ValueError", .type "Exception", .type "BaseException", .type "object"] "ValueError.__new__"
  g5 : mg "InvalidTent" = some (.ref (C 5))
  x5 : PySem.W.excIn K (C 5) [.type "ValueError", .type "Exception", .type "BaseException", .type "object"] "ValueError.__new__" = true
  k5 : PySem.W.keepIn K (.ref (C 5)) = true
  g6 : mg "InvalidRow" = some (.ref (C 6))
  e6 : E1 K mg "InvalidRow" "reason" (C 6) (I 6) [.type "ValueError", .type "Exception", .type "BaseException", .type "object"] "ValueError.__new__"
  g7 : mg "InvalidLetter" = some (.ref (C 7))
  e7 : E1 K mg "InvalidLetter" "reason" (C 7) (I 7) [.type "ValueError", .type "Exception", .type "BaseException", .type "object"] "ValueError.__new__"
  g8 : mg "InvalidDesign" = some (.ref (C 8))
  e8 : E1 K mg "InvalidDesign" "reason" (C 8) (I 8) [.type "ValueError", .type "Exception", .type "BaseException", .type "object"] "ValueError.__new__"
  g9 : mg "Needed" = some (.ref (C 9))
  e9 : E1 K mg "Needed" "name" (C 9) (I 9) [.type "ValueError", .type "Exception", .type "BaseException", .type "object"] "ValueError.__new__"
  g10 : mg "InvalidJoin" = some (.ref (C 10))
  e10 : E1 K mg "InvalidJoin" "name" (C 10) (I 10) [.type "ValueError", .type "Exception", .type "BaseException", .type "object"] "ValueError.__new__"
  g11 : mg "InvalidMasters" = some (.ref (C 11))
  e11 : E1 K mg "InvalidMasters" "index" (C 11) (I 11) [.type "ValueError", .type "Exception", .type "BaseException", .type "object"] "ValueError.__new__"
  g12 : mg "NotOneRoom" = some (.ref (C 12))
  x12 : PySem.W.excIn K (C 12) [.type "ValueError", .type "Exception", .type "BaseException", .type "object"] "ValueError.__new__" = true
  k12 : PySem.W.keepIn K (.ref (C 12)) = true
  g13 : mg "InvalidChange" = some (.ref (C 13))
  x13 : PySem.W.excIn K (C 13) [.type "ValueError", .type "Exception", .type "BaseException", .type "object"] "ValueError.__new__" = true
  k13 : PySem.W.keepIn K (.ref (C 13)) = true
  g14 : mg "InvalidText" = some (.ref (C 14))
  e14 : E2 K mg "InvalidText" (C 14) (I 14) [.type "ValueError", .type "Exception", .type "BaseException", .type "object"] "ValueError.__new__"
  g15 : mg "UnknownCommand" = some (.ref (C 15))
  e15 : E1 K mg "UnknownCommand" "word" (C 15) (I 15) [.type "ValueError", .type "Exception", .type "BaseException", .type "object"] "ValueError.__new__"
  g16 : mg "NothingToUndo" = some (.ref (C 16))
  x16 : PySem.W.excIn K (C 16) [.type "ValueError", .type "Exception", .type "BaseException", .type "object"] "ValueError.__new__" = true
  k16 : PySem.W.keepIn K (.ref (C 16)) = true
  g17 : mg "UnknownAxis" = some (.ref (C 17))
  e17 : E1 K mg "UnknownAxis" "name" (C 17) (I 17) [.type "LookupError", .type "Exception", .type "BaseException", .type "object"] "LookupError.__new__"
  g18 : mg "UnknownLetter" = some (.ref (C 18))
  e18 : E1 K mg "UnknownLetter" "name" (C 18) (I 18) [.type "LookupError", .type "Exception", .type "BaseException", .type "object"] "LookupError.__new__"
  ei : ∀ i, i < 19 → EI K (C i)
  fl : EF K (C 14) "line"
  fw : EF K (C 14) "word"
  gF : mg "FaceError" = some (.ref CF)
  gM : mg "MissingError" = some (.ref CM)
  kc : ∀ i, i < 19 → ∀ j, j < 19 → PySem.W.kitOne K (.ref (C i)) (.ref (C j)) = some (decide (i = j))
  kF : ∀ i, i < 19 → PySem.W.kitOne K (.ref (C i)) (.ref CF) = some (decide (i < 17))
  kM : ∀ i, i < 19 → PySem.W.kitOne K (.ref (C i)) (.ref CM) = some (decide (16 < i))
  kV : ∀ i, i < 19 → PySem.W.kitOne K (.ref (C i)) (.type "ValueError") = some (decide (i < 17))
  kL : ∀ i, i < 19 → PySem.W.kitOne K (.ref (C i)) (.type "LookupError") = some (decide (16 < i))
/-- the nineteen errors of _law_made -/
def all19 (C : Nat → Addr) (one two : V) : List PV := [Er (C 0) none, Er (C 1) none, Er (C 2) (some [("reason", one)]), Er (C 3) (some [("name", one)]), Er (C 4) (some [("name", one)]), Er (C 5) none, Er (C 6) (some [("reason", one)]), Er (C 7) (some [("reason", one)]), Er (C 8) (some [("reason", one)]), Er (C 9) (some [("name", one)]), Er (C 10) (some [("name", one)]), Er (C 11) (some [("index", one)]), Er (C 12) none, Er (C 13) none, Er (C 14) (some [("word", two), ("line", one)]), Er (C 15) (some [("word", one)]), Er (C 16) none, Er (C 17) (some [("name", one)]), Er (C 18) (some [("name", one)])]
theorem stb19 (C : Nat → Addr) (one two : V) : StbA (all19 C one two) := ⟨stb_er, stb_er, stb_er, stb_er, stb_er, stb_er, stb_er, stb_er, stb_er, stb_er, stb_er, stb_er, stb_er, stb_er, stb_er, stb_er, stb_er, stb_er, stb_er, trivial⟩
structure Bl2 (mg : Str → Option Value) : Prop extends Bl mg where
  range : mg "range" = none
  isi : mg "isinstance" = none
  repr : mg "repr" = none
  ve : mg "ValueError" = none
  le : mg "LookupError" = none
def spMade (C : Nat → Addr) : Sp := fun vs H Q _ => ∃ one two, vs = [one, two] ∧ ∀ v H', Grow H H' → LstP (all19 C one two) v H' → Q v H'
def spFields (C : Nat → Addr) : Sp := fun vs H Q _ => ∃ v one two, vs = [v] ∧ LstP (all19 C one two) v H ∧ ∀ u H', Grow H H' → LstN (List.replicate 13 (IsP one) ++ [IsP two]) u H' → Q u H'
section
variable {P : Program} {w : World} {K : PySem.W.Frag} {mg : Str → Option Value} {base : Heap} {C I : Nat → Addr} {CF CM : Addr}
theorem scMade : FnScope ["_law_one", "_law_two", "_law_found"] ["_law_one", "_law_two"] (defScope sMade) := ⟨rfl, rfl, rfl, by decide +kernel, rfl, by decide +kernel, by decide +kernel⟩
theorem ok_made {f : Addr} {fd : FuncData} (F : Fun K "_law_made" "_law_made" sMade f fd) (X : Tx K mg C I CF CM) (T : Bl2 mg) : FnOk P w K mg base CX0 1 f fd ["_law_one", "_law_two"] (spMade C) := by
  refine F.ok scMade (fun vs H Q E h => ?_) (fun cdv A outer s H vs Q E hr h => ?_)
  · obtain ⟨one, two, rfl, _⟩ := h
    rfl
  · obtain ⟨one, two, rfl, q⟩ := h
    have nd := scMade.nd
    refine ⟨_, (pss_cons
        (ps_set (i := 2) nd rfl (Or.inl rfl) (pe_lst (pa_cons (XO.pe_e0 PySem.F.excBase_ValueError X.x0 X.g0 X.k0 (by rfl)) (pa_cons (XO.pe_e0 PySem.F.excBase_ValueError X.x1 X.g1 X.k1 (by rfl)) (pa_cons (XO.pe_e1 PySem.F.excBase_ValueError PySem.F.store_ValueError X.e2 (hr.mono (by decide)) (by rfl) (pa_cons (pv 0) pa_nil)) (pa_cons (XO.pe_e1 PySem.F.excBase_ValueError PySem.F.store_ValueError X.e3 (hr.mono (by decide)) (by rfl) (pa_cons (pv 0) pa_nil)) (pa_cons (XO.pe_e1 PySem.F.excBase_ValueError PySem.F.store_ValueError X.e4 (hr.mono (by decide)) (by rfl) (pa_cons (pv 0) pa_nil)) (pa_cons (XO.pe_e0 PySem.F.excBase_ValueError X.x5 X.g5 X.k5 (by rfl)) pa_nil))))))))
      (pss_cons
        (ps_set (i := 2) nd rfl (Or.inl rfl) (pe_op op_cat (pv 2) (pe_lst (pa_cons (XO.pe_e1 PySem.F.excBase_ValueError PySem.F.store_ValueError X.e6 (hr.mono (by decide)) (by rfl) (pa_cons (pv 0) pa_nil)) (pa_cons (XO.pe_e1 PySem.F.excBase_ValueError PySem.F.store_ValueError X.e7 (hr.mono (by decide)) (by rfl) (pa_cons (pv 0) pa_nil)) (pa_cons (XO.pe_e1 PySem.F.excBase_ValueError PySem.F.store_ValueError X.e8 (hr.mono (by decide)) (by rfl) (pa_cons (pv 0) pa_nil)) (pa_cons (XO.pe_e1 PySem.F.excBase_ValueError PySem.F.store_ValueError X.e9 (hr.mono (by decide)) (by rfl) (pa_cons (pv 0) pa_nil)) (pa_cons (XO.pe_e1 PySem.F.excBase_ValueError PySem.F.store_ValueError X.e10 (hr.mono (by decide)) (by rfl) (pa_cons (pv 0) pa_nil)) pa_nil))))))))
      (pss_cons
        (ps_set (i := 2) nd rfl (Or.inl rfl) (pe_op op_cat (pv 2) (pe_lst (pa_cons (XO.pe_e1 PySem.F.excBase_ValueError PySem.F.store_ValueError X.e11 (hr.mono (by decide)) (by rfl) (pa_cons (pv 0) pa_nil)) (pa_cons (XO.pe_e0 PySem.F.excBase_ValueError X.x12 X.g12 X.k12 (by rfl)) (pa_cons (XO.pe_e0 PySem.F.excBase_ValueError X.x13 X.g13 X.k13 (by rfl)) (pa_cons (XO.pe_e2 PySem.F.excBase_ValueError PySem.F.store_ValueError X.e14 (hr.mono (by decide)) (by rfl) (pa_cons (pv 0) (pa_cons (pv 1) pa_nil))) (pa_cons (XO.pe_e1 PySem.F.excBase_ValueError PySem.F.store_ValueError X.e15 (hr.mono (by decide)) (by rfl) (pa_cons (pv 0) pa_nil)) pa_nil))))))))
      (pss_one
        (ps_ret (pe_op op_cat (pv 2) (pe_lst (pa_cons (XO.pe_e0 PySem.F.excBase_ValueError X.x16 X.g16 X.k16 (by rfl)) (pa_cons (XO.pe_e1 PySem.F.excBase_LookupError PySem.F.store_LookupError X.e17 (hr.mono (by decide)) (by rfl) (pa_cons (pv 0) pa_nil)) (pa_cons (XO.pe_e1 PySem.F.excBase_LookupError PySem.F.store_LookupError X.e18 (hr.mono (by decide)) (by rfl) (pa_cons (pv 0) pa_nil)) pa_nil)))))))))), ?_⟩
    show tSeq _ _ _ [some one, some two, none] H
    refine sq_set (evp_lst (Nat.le_of_ble_eq_true rfl) (EvPs.cons stb_er evp_e0 (EvPs.cons stb_er evp_e0 (EvPs.cons stb_er (evp_e1 (evp_var (P := IsP _) rfl rfl stb_is)) (EvPs.cons stb_er (evp_e1 (evp_var (P := IsP _) rfl rfl stb_is)) (EvPs.cons stb_er (evp_e1 (evp_var (P := IsP _) rfl rfl stb_is)) (EvPs.cons stb_er evp_e0 EvPs.nil)))))) ⟨stb_er, stb_er, stb_er, stb_er, stb_er, stb_er, trivial⟩) fun v0 H0 g0 p0 => ?_
    refine sq_set (evp_cat (Nat.le_of_ble_eq_true rfl) (evp_var rfl p0 (stb_lst ⟨stb_er, stb_er, stb_er, stb_er, stb_er, stb_er, trivial⟩)) (evp_lst (Nat.le_of_ble_eq_true rfl) (EvPs.cons stb_er (evp_e1 (evp_var (P := IsP _) rfl rfl stb_is)) (EvPs.cons stb_er (evp_e1 (evp_var (P := IsP _) rfl rfl stb_is)) (EvPs.cons stb_er (evp_e1 (evp_var (P := IsP _) rfl rfl stb_is)) (EvPs.cons stb_er (evp_e1 (evp_var (P := IsP _) rfl rfl stb_is)) (EvPs.cons stb_er (evp_e1 (evp_var (P := IsP _) rfl rfl stb_is)) EvPs.nil))))) ⟨stb_er, stb_er, stb_er, stb_er, stb_er, trivial⟩) ⟨stb_er, stb_er, stb_er, stb_er, stb_er, stb_er, trivial⟩ ⟨stb_er, stb_er, stb_er, stb_er, stb_er, trivial⟩) fun v1 H1 g1 p1 => ?_
    refine sq_set (evp_cat (Nat.le_of_ble_eq_true rfl) (evp_var rfl p1 (stb_lst ⟨stb_er, stb_er, stb_er, stb_er, stb_er, stb_er, stb_er, stb_er, stb_er, stb_er, stb_er, trivial⟩)) (evp_lst (Nat.le_of_ble_eq_true rfl) (EvPs.cons stb_er (evp_e1 (evp_var (P := IsP _) rfl rfl stb_is)) (EvPs.cons stb_er evp_e0 (EvPs.cons stb_er evp_e0 (EvPs.cons stb_er (evp_e2 (evp_var (P := IsP _) rfl rfl stb_is) (evp_var (P := IsP _) rfl rfl stb_is)) (EvPs.cons stb_er (evp_e1 (evp_var (P := IsP _) rfl rfl stb_is)) EvPs.nil))))) ⟨stb_er, stb_er, stb_er, stb_er, stb_er, trivial⟩) ⟨stb_er, stb_er, stb_er, stb_er, stb_er, stb_er, stb_er, stb_er, stb_er, stb_er, stb_er, trivial⟩ ⟨stb_er, stb_er, stb_er, stb_er, stb_er, trivial⟩) fun v2 H2 g2 p2 => ?_
    refine st_retP (evp_cat (Nat.le_of_ble_eq_true rfl) (evp_var rfl p2 (stb_lst ⟨stb_er, stb_er, stb_er, stb_er, stb_er, stb_er, stb_er, stb_er, stb_er, stb_er, stb_er, stb_er, stb_er, stb_er, stb_er, stb_er, trivial⟩)) (evp_lst (Nat.le_of_ble_eq_true rfl) (EvPs.cons stb_er evp_e0 (EvPs.cons stb_er (evp_e1 (evp_var (P := IsP _) rfl rfl stb_is)) (EvPs.cons stb_er (evp_e1 (evp_var (P := IsP _) rfl rfl stb_is)) EvPs.nil))) ⟨stb_er, stb_er, stb_er, trivial⟩) ⟨stb_er, stb_er, stb_er, stb_er, stb_er, stb_er, stb_er, stb_er, stb_er, stb_er, stb_er, stb_er, stb_er, stb_er, stb_er, stb_er, trivial⟩ ⟨stb_er, stb_er, stb_er, trivial⟩) fun v3 H3 g3 p3 => ?_
    exact q v3 H3 (((g0.tr g1).tr g2).tr g3) p3
theorem scFields : FnScope ["_law_found", "_law_told"] ["_law_found"] (defScope sFields) := ⟨rfl, rfl, rfl, by decide +kernel, rfl, by decide +kernel, by decide +kernel⟩
theorem ok_fields {f : Addr} {fd : FuncData} (F : Fun K "_law_fields" "_law_fields" sFields f fd) (X : Tx K mg C I CF CM) (T : Bl2 mg) : FnOk P w K mg base CX0 1 f fd ["_law_found"] (spFields C) := by
  refine F.ok scFields (fun vs H Q E h => ?_) (fun cdv A outer s H vs Q E hr h => ?_)
  · obtain ⟨v, one, two, rfl, _⟩ := h
    rfl
  · obtain ⟨v, one, two, rfl, hF, q⟩ := h
    have nd := scFields.nd
    have SA := stb19 C one two
    refine ⟨_, (pss_cons
        (ps_set (i := 1) nd rfl (Or.inl rfl) (pe_lst (pa_cons (XO.pe_ef (pe_ix ix_list (pv 0) pe_int (fun _ _ => rfl))) (pa_cons (XO.pe_ef (pe_ix ix_list (pv 0) pe_int (fun _ _ => rfl))) (pa_cons (XO.pe_ef (pe_ix ix_list (pv 0) pe_int (fun _ _ => rfl))) (pa_cons (XO.pe_ef (pe_ix ix_list (pv 0) pe_int (fun _ _ => rfl))) (pa_cons (XO.pe_ef (pe_ix ix_list (pv 0) pe_int (fun _ _ => rfl))) (pa_cons (XO.pe_ef (pe_ix ix_list (pv 0) pe_int (fun _ _ => rfl))) pa_nil))))))))
      (pss_cons
        (ps_set (i := 1) nd rfl (Or.inl rfl) (pe_op XO.op_catN (pv 1) (pe_lst (pa_cons (XO.pe_ef (pe_ix ix_list (pv 0) pe_int (fun _ _ => rfl))) (pa_cons (XO.pe_ef (pe_ix ix_list (pv 0) pe_int (fun _ _ => rfl))) (pa_cons (XO.pe_ef (pe_ix ix_list (pv 0) pe_int (fun _ _ => rfl))) (pa_cons (XO.pe_ef (pe_ix ix_list (pv 0) pe_int (fun _ _ => rfl))) (pa_cons (XO.pe_ef (pe_ix ix_list (pv 0) pe_int (fun _ _ => rfl))) (pa_cons (XO.pe_ef (pe_ix ix_list (pv 0) pe_int (fun _ _ => rfl))) pa_nil)))))))))
      (pss_one
        (ps_ret (pe_op XO.op_catN (pv 1) (pe_lst (pa_cons (XO.pe_ef (pe_ix ix_list (pv 0) pe_int (fun _ _ => rfl))) (pa_cons (XO.pe_ef (pe_ix ix_list (pv 0) pe_int (fun _ _ => rfl))) pa_nil)))))))), ?_⟩
    show tSeq _ _ _ [some v, none] H
    refine sq_set (evp_lst (Nat.le_of_ble_eq_true rfl) (EvPs.cons stb_is (evp_ef (evp_ix (j := 2) (evp_var rfl hF (stb_lst SA)) rfl rfl) X.e2.ef rfl) (EvPs.cons stb_is (evp_ef (evp_ix (j := 3) (evp_var rfl hF (stb_lst SA)) rfl rfl) X.e3.ef rfl) (EvPs.cons stb_is (evp_ef (evp_ix (j := 4) (evp_var rfl hF (stb_lst SA)) rfl rfl) X.e4.ef rfl) (EvPs.cons stb_is (evp_ef (evp_ix (j := 6) (evp_var rfl hF (stb_lst SA)) rfl rfl) X.e6.ef rfl) (EvPs.cons stb_is (evp_ef (evp_ix (j := 7) (evp_var rfl hF (stb_lst SA)) rfl rfl) X.e7.ef rfl) (EvPs.cons stb_is (evp_ef (evp_ix (j := 8) (evp_var rfl hF (stb_lst SA)) rfl rfl) X.e8.ef rfl) EvPs.nil)))))) ⟨stb_is, stb_is, stb_is, stb_is, stb_is, stb_is, trivial⟩) fun v0 H0 g0 p0 => ?_
    refine sq_set (evp_catN (Nat.le_of_ble_eq_true rfl) (evp_var rfl p0 (stb_lst ⟨stb_is, stb_is, stb_is, stb_is, stb_is, stb_is, trivial⟩)) (evp_lst (Nat.le_of_ble_eq_true rfl) (EvPs.cons stb_is (evp_ef (evp_ix (j := 9) (evp_var rfl (stb_lst SA _ _ _ g0 hF) (stb_lst SA)) rfl rfl) X.e9.ef rfl) (EvPs.cons stb_is (evp_ef (evp_ix (j := 10) (evp_var rfl (stb_lst SA _ _ _ g0 hF) (stb_lst SA)) rfl rfl) X.e10.ef rfl) (EvPs.cons stb_is (evp_ef (evp_ix (j := 11) (evp_var rfl (stb_lst SA _ _ _ g0 hF) (stb_lst SA)) rfl rfl) X.e11.ef rfl) (EvPs.cons stb_is (evp_ef (evp_ix (j := 15) (evp_var rfl (stb_lst SA _ _ _ g0 hF) (stb_lst SA)) rfl rfl) X.e15.ef rfl) (EvPs.cons stb_is (evp_ef (evp_ix (j := 17) (evp_var rfl (stb_lst SA _ _ _ g0 hF) (stb_lst SA)) rfl rfl) X.e17.ef rfl) (EvPs.cons stb_is (evp_ef (evp_ix (j := 18) (evp_var rfl (stb_lst SA _ _ _ g0 hF) (stb_lst SA)) rfl rfl) X.e18.ef rfl) EvPs.nil)))))) ⟨stb_is, stb_is, stb_is, stb_is, stb_is, stb_is, trivial⟩) ⟨stb_is, stb_is, stb_is, stb_is, stb_is, stb_is, trivial⟩ ⟨stb_is, stb_is, stb_is, stb_is, stb_is, stb_is, trivial⟩) fun v1 H1 g1 p1 => ?_
    refine st_retP (evp_catN (Nat.le_of_ble_eq_true rfl) (evp_var rfl (LstN.lst _ _ p1) (stb_lst ⟨stb_is, stb_is, stb_is, stb_is, stb_is, stb_is, stb_is, stb_is, stb_is, stb_is, stb_is, stb_is, trivial⟩)) (evp_lst (Nat.le_of_ble_eq_true rfl) (EvPs.cons stb_is (evp_ef (evp_ix (j := 14) (evp_var rfl (stb_lst SA _ _ _ (g0.tr g1) hF) (stb_lst SA)) rfl rfl) X.fl lk_l) (EvPs.cons stb_is (evp_ef (evp_ix (j := 14) (evp_var rfl (stb_lst SA _ _ _ (g0.tr g1) hF) (stb_lst SA)) rfl rfl) X.fw lk_w) EvPs.nil)) ⟨stb_is, stb_is, trivial⟩) ⟨stb_is, stb_is, stb_is, stb_is, stb_is, stb_is, stb_is, stb_is, stb_is, stb_is, stb_is, stb_is, trivial⟩ ⟨stb_is, stb_is, trivial⟩) fun v2 H2 g2 p2 => ?_
    exact q v2 H2 ((g0.tr g1).tr g2) p2
end
end B1
set_option maxRecDepth 100000
set_option maxHeartbeats 4000000
namespace B1
open PySem PySem.Spec PyProof.Rows L2 LP XO
def spAbove (C : Nat → Addr) : Sp := fun vs H Q _ => ∃ v i fs, vs = [v] ∧ i < 19 ∧ Er (C i) fs v H ∧ ∀ u H', Grow H H' → LstP [IsP (.bl (decide (i < 17))), IsP (.bl (decide (16 < i))), IsP (.bl (decide (i < 17))), IsP (.bl (decide (16 < i)))] u H' → Q u H'
def spClasses (C : Nat → Addr) : Sp := fun vs H Q _ => ∃ v i fs, vs = [v] ∧ i < 19 ∧ Er (C i) fs v H ∧ ∀ u H', Grow H H' → LstP [IsP (.int (i : Int))] u H' → Q u H'
def rLenK (K : PySem.W.Frag) : List V → Hp → VK → Prop := fun xs H Q => ∃ p ys, xs = [.ref p] ∧ (SqL K H p ys ∨ SqT K H p ys) ∧ Q (.int ys.length) H
section
variable {P : Program} {w : World} {K : PySem.W.Frag} {mg : Str → Option Value} {base : Heap} {C I : Nat → Addr} {CF CM : Addr}
theorem scAbove : FnScope ["_law_error", "_law_told"] ["_law_error"] (defScope sAbove) := ⟨rfl, rfl, rfl, by decide +kernel, rfl, by decide +kernel, by decide +kernel⟩
theorem ok_above {f : Addr} {fd : FuncData} (F : Fun K "_law_above" "_law_above" sAbove f fd) (X : Tx K mg C I CF CM) (T : Bl2 mg) : FnOk P w K mg base CX0 1 f fd ["_law_error"] (spAbove C) := by
  refine F.ok scAbove (fun vs H Q E h => ?_) (fun cdv A outer s H vs Q E hr h => ?_)
  · obtain ⟨v, i, fs, rfl, _⟩ := h
    rfl
  · obtain ⟨v, i, fs, rfl, hi, hE, q⟩ := h
    have nd := scAbove.nd
    refine ⟨_, (pss_cons
        (ps_set (i := 1) nd rfl (Or.inl rfl) (pe_lst (pa_cons (pe_callB XO.call_isX (by rfl) T.isi (by decide +kernel) (pa_cons (pv 0) (pa_cons (pe_glob (v := .ref CF) (by rfl) X.gF rfl) pa_nil))) (pa_cons (pe_callB XO.call_isX (by rfl) T.isi (by decide +kernel) (pa_cons (pv 0) (pa_cons (pe_glob (v := .ref CM) (by rfl) X.gM rfl) pa_nil))) pa_nil))))
      (pss_one
        (ps_ret (pe_op op_cat (pv 1) (pe_lst (pa_cons (pe_callB XO.call_isX (by rfl) T.isi (by decide +kernel) (pa_cons (pv 0) (pa_cons (pe_bltn (v := .ty "ValueError") (by rfl) T.ve (by decide +kernel) rfl) pa_nil))) (pa_cons (pe_callB XO.call_isX (by rfl) T.isi (by decide +kernel) (pa_cons (pv 0) (pa_cons (pe_bltn (v := .ty "LookupError") (by rfl) T.le (by decide +kernel) rfl) pa_nil))) pa_nil))))))), ?_⟩
    show tSeq _ _ _ [some v, none] H
    refine sq_set (evp_lst (Nat.le_of_ble_eq_true rfl) (EvPs.cons stb_is (evp_isi (evp_var rfl hE stb_er) (X.ei i hi) (.own CF) (X.kF i hi)) (EvPs.cons stb_is (evp_isi (evp_var rfl hE stb_er) (X.ei i hi) (.own CM) (X.kM i hi)) EvPs.nil)) ⟨stb_is, stb_is, trivial⟩) fun v0 H0 g0 p0 => ?_
    refine st_retP (evp_cat (Nat.le_of_ble_eq_true rfl) (evp_var rfl p0 (stb_lst ⟨stb_is, stb_is, trivial⟩)) (evp_lst (Nat.le_of_ble_eq_true rfl) (EvPs.cons stb_is (evp_isi (evp_var rfl (stb_er _ _ _ g0 hE) stb_er) (X.ei i hi) (.ty "ValueError") (X.kV i hi)) (EvPs.cons stb_is (evp_isi (evp_var rfl (stb_er _ _ _ g0 hE) stb_er) (X.ei i hi) (.ty "LookupError") (X.kL i hi)) EvPs.nil)) ⟨stb_is, stb_is, trivial⟩) ⟨stb_is, stb_is, trivial⟩ ⟨stb_is, stb_is, trivial⟩) fun v1 H1 g1 p1 => ?_
    exact q v1 H1 (g0.tr g1) p1
theorem scClasses : FnScope ["_law_error", "_law_found", "_law_at"] ["_law_error"] (defScope sClasses) := ⟨rfl, rfl, rfl, by decide +kernel, rfl, by decide +kernel, by decide +kernel⟩
theorem ok_classes {f : Addr} {fd : FuncData} (F : Fun K "_law_classes" "_law_classes" sClasses f fd) (X : Tx K mg C I CF CM) (T : Bl2 mg) : FnOk P w K mg base CX0 1 f fd ["_law_error"] (spClasses C) := by
  refine F.ok scClasses (fun vs H Q E h => ?_) (fun cdv A outer s H vs Q E hr h => ?_)
  · obtain ⟨v, i, fs, rfl, _⟩ := h
    rfl
  · obtain ⟨v, i, fs, rfl, hi, hE, q⟩ := h
    have nd := scClasses.nd
    have isx : CallR (cxOf CX0 P w K mg base ["_law_error", "_law_found", "_law_at"] "_law_classes" (defScope sClasses) f cdv A outer s H E).nox (.builtin "isinstance") (rIsX K) := call_isX
    have lens : CallR (cxOf CX0 P w K mg base ["_law_error", "_law_found", "_law_at"] "_law_classes" (defScope sClasses) f cdv A outer s H E).nox (.builtin "len") (rLenK K) := call_len_seq
    refine ⟨_, (pss_cons
        (ps_asg (pe_lst (pa_cons (pe_callB isx (by rfl) T.isi (by decide +kernel) (pa_cons (pv 0) (pa_cons (pe_glob (v := .ref (C 0)) (by rfl) X.g0 rfl) pa_nil))) (pa_cons (pe_callB isx (by rfl) T.isi (by decide +kernel) (pa_cons (pv 0) (pa_cons (pe_glob (v := .ref (C 1)) (by rfl) X.g1 rfl) pa_nil))) (pa_cons (pe_callB isx (by rfl) T.isi (by decide +kernel) (pa_cons (pv 0) (pa_cons (pe_glob (v := .ref (C 2)) (by rfl) X.g2 rfl) pa_nil))) pa_nil)))) (pg_name (i := 1) nd rfl (Or.inr rfl)))
      (pss_cons
        (ps_asg (pe_op op_cat (pv 1) (pe_lst (pa_cons (pe_callB isx (by rfl) T.isi (by decide +kernel) (pa_cons (pv 0) (pa_cons (pe_glob (v := .ref (C 3)) (by rfl) X.g3 rfl) pa_nil))) (pa_cons (pe_callB isx (by rfl) T.isi (by decide +kernel) (pa_cons (pv 0) (pa_cons (pe_glob (v := .ref (C 4)) (by rfl) X.g4 rfl) pa_nil))) (pa_cons (pe_callB isx (by rfl) T.isi (by decide +kernel) (pa_cons (pv 0) (pa_cons (pe_glob (v := .ref (C 5)) (by rfl) X.g5 rfl) pa_nil))) pa_nil))))) (pg_name (i := 1) nd rfl (Or.inr rfl)))
      (pss_cons
        (ps_asg (pe_op op_cat (pv 1) (pe_lst (pa_cons (pe_callB isx (by rfl) T.isi (by decide +kernel) (pa_cons (pv 0) (pa_cons (pe_glob (v := .ref (C 6)) (by rfl) X.g6 rfl) pa_nil))) (pa_cons (pe_callB isx (by rfl) T.isi (by decide +kernel) (pa_cons (pv 0) (pa_cons (pe_glob (v := .ref (C 7)) (by rfl) X.g7 rfl) pa_nil))) (pa_cons (pe_callB isx (by rfl) T.isi (by decide +kernel) (pa_cons (pv 0) (pa_cons (pe_glob (v := .ref (C 8)) (by rfl) X.g8 rfl) pa_nil))) pa_nil))))) (pg_name (i := 1) nd rfl (Or.inr rfl)))
      (pss_cons
        (ps_asg (pe_op op_cat (pv 1) (pe_lst (pa_cons (pe_callB isx (by rfl) T.isi (by decide +kernel) (pa_cons (pv 0) (pa_cons (pe_glob (v := .ref (C 9)) (by rfl) X.g9 rfl) pa_nil))) (pa_cons (pe_callB isx (by rfl) T.isi (by decide +kernel) (pa_cons (pv 0) (pa_cons (pe_glob (v := .ref (C 10)) (by rfl) X.g10 rfl) pa_nil))) (pa_cons (pe_callB isx (by rfl) T.isi (by decide +kernel) (pa_cons (pv 0) (pa_cons (pe_glob (v := .ref (C 11)) (by rfl) X.g11 rfl) pa_nil))) pa_nil))))) (pg_name (i := 1) nd rfl (Or.inr rfl)))
      (pss_cons
        (ps_asg (pe_op op_cat (pv 1) (pe_lst (pa_cons (pe_callB isx (by rfl) T.isi (by decide +kernel) (pa_cons (pv 0) (pa_cons (pe_glob (v := .ref (C 12)) (by rfl) X.g12 rfl) pa_nil))) (pa_cons (pe_callB isx (by rfl) T.isi (by decide +kernel) (pa_cons (pv 0) (pa_cons (pe_glob (v := .ref (C 13)) (by rfl) X.g13 rfl) pa_nil))) (pa_cons (pe_callB isx (by rfl) T.isi (by decide +kernel) (pa_cons (pv 0) (pa_cons (pe_glob (v := .ref (C 14)) (by rfl) X.g14 rfl) pa_nil))) pa_nil))))) (pg_name (i := 1) nd rfl (Or.inr rfl)))
      (pss_cons
        (ps_asg (pe_op op_cat (pv 1) (pe_lst (pa_cons (pe_callB isx (by rfl) T.isi (by decide +kernel) (pa_cons (pv 0) (pa_cons (pe_glob (v := .ref (C 15)) (by rfl) X.g15 rfl) pa_nil))) (pa_cons (pe_callB isx (by rfl) T.isi (by decide +kernel) (pa_cons (pv 0) (pa_cons (pe_glob (v := .ref (C 16)) (by rfl) X.g16 rfl) pa_nil))) pa_nil)))) (pg_name (i := 1) nd rfl (Or.inr rfl)))
      (pss_cons
        (ps_asg (pe_op op_cat (pv 1) (pe_lst (pa_cons (pe_callB isx (by rfl) T.isi (by decide +kernel) (pa_cons (pv 0) (pa_cons (pe_glob (v := .ref (C 17)) (by rfl) X.g17 rfl) pa_nil))) (pa_cons (pe_callB isx (by rfl) T.isi (by decide +kernel) (pa_cons (pv 0) (pa_cons (pe_glob (v := .ref (C 18)) (by rfl) X.g18 rfl) pa_nil))) pa_nil)))) (pg_name (i := 1) nd rfl (Or.inr rfl)))
      (pss_one
        (ps_ret (pe_lc (own := [("_law_at", 2)]) (g := gName 2) (by rfl) nd (pi_range1 (by rfl) T.range (pa_cons (pe_callB lens (by rfl) T.len PySem.boot_len (pa_cons (pv 1) pa_nil)) pa_nil)) (blkOk_by (own := [("_law_at", 2)]) (N := ["_law_error", "_law_found", "_law_at"]) (sc := defScope sClasses) (by decide +kernel)) (fun _ _ _ _ _ => pg_name (i := 2) nd rfl (Or.inl rfl)) (fun _ _ _ _ _ => pts_one (pt_val (pe_ix (r := rIxL K) ix_list (pv 1) (pv 2) (fun _ _ => rfl)))) (fun _ _ _ _ _ => pv 2))))))))))), ?_⟩
    show tSeq _ _ _ [some v, none, none] H
    refine sq_set (evp_lst (Nat.le_of_ble_eq_true rfl) (EvPs.cons stb_is (evp_isi (evp_var rfl hE stb_er) (X.ei i hi) (.own (C 0)) (X.kc i hi 0 (by decide))) (EvPs.cons stb_is (evp_isi (evp_var rfl hE stb_er) (X.ei i hi) (.own (C 1)) (X.kc i hi 1 (by decide))) (EvPs.cons stb_is (evp_isi (evp_var rfl hE stb_er) (X.ei i hi) (.own (C 2)) (X.kc i hi 2 (by decide))) EvPs.nil))) ⟨stb_is, stb_is, stb_is, trivial⟩) fun v0 H0 g0 p0 => ?_
    refine sq_set (evp_cat (Nat.le_of_ble_eq_true rfl) (evp_var rfl p0 (stb_lst ⟨stb_is, stb_is, stb_is, trivial⟩)) (evp_lst (Nat.le_of_ble_eq_true rfl) (EvPs.cons stb_is (evp_isi (evp_var rfl (stb_er _ _ _ g0 hE) stb_er) (X.ei i hi) (.own (C 3)) (X.kc i hi 3 (by decide))) (EvPs.cons stb_is (evp_isi (evp_var rfl (stb_er _ _ _ g0 hE) stb_er) (X.ei i hi) (.own (C 4)) (X.kc i hi 4 (by decide))) (EvPs.cons stb_is (evp_isi (evp_var rfl (stb_er _ _ _ g0 hE) stb_er) (X.ei i hi) (.own (C 5)) (X.kc i hi 5 (by decide))) EvPs.nil))) ⟨stb_is, stb_is, stb_is, trivial⟩) ⟨stb_is, stb_is, stb_is, trivial⟩ ⟨stb_is, stb_is, stb_is, trivial⟩) fun v1 H1 g1 p1 => ?_
    refine sq_set (evp_cat (Nat.le_of_ble_eq_true rfl) (evp_var rfl p1 (stb_lst ⟨stb_is, stb_is, stb_is, stb_is, stb_is, stb_is, trivial⟩)) (evp_lst (Nat.le_of_ble_eq_true rfl) (EvPs.cons stb_is (evp_isi (evp_var rfl (stb_er _ _ _ (g0.tr g1) hE) stb_er) (X.ei i hi) (.own (C 6)) (X.kc i hi 6 (by decide))) (EvPs.cons stb_is (evp_isi (evp_var rfl (stb_er _ _ _ (g0.tr g1) hE) stb_er) (X.ei i hi) (.own (C 7)) (X.kc i hi 7 (by decide))) (EvPs.cons stb_is (evp_isi (evp_var rfl (stb_er _ _ _ (g0.tr g1) hE) stb_er) (X.ei i hi) (.own (C 8)) (X.kc i hi 8 (by decide))) EvPs.nil))) ⟨stb_is, stb_is, stb_is, trivial⟩) ⟨stb_is, stb_is, stb_is, stb_is, stb_is, stb_is, trivial⟩ ⟨stb_is, stb_is, stb_is, trivial⟩) fun v2 H2 g2 p2 => ?_
    refine sq_set (evp_cat (Nat.le_of_ble_eq_true rfl) (evp_var rfl p2 (stb_lst ⟨stb_is, stb_is, stb_is, stb_is, stb_is, stb_is, stb_is, stb_is, stb_is, trivial⟩)) (evp_lst (Nat.le_of_ble_eq_true rfl) (EvPs.cons stb_is (evp_isi (evp_var rfl (stb_er _ _ _ ((g0.tr g1).tr g2) hE) stb_er) (X.ei i hi) (.own (C 9)) (X.kc i hi 9 (by decide))) (EvPs.cons stb_is (evp_isi (evp_var rfl (stb_er _ _ _ ((g0.tr g1).tr g2) hE) stb_er) (X.ei i hi) (.own (C 10)) (X.kc i hi 10 (by decide))) (EvPs.cons stb_is (evp_isi (evp_var rfl (stb_er _ _ _ ((g0.tr g1).tr g2) hE) stb_er) (X.ei i hi) (.own (C 11)) (X.kc i hi 11 (by decide))) EvPs.nil))) ⟨stb_is, stb_is, stb_is, trivial⟩) ⟨stb_is, stb_is, stb_is, stb_is, stb_is, stb_is, stb_is, stb_is, stb_is, trivial⟩ ⟨stb_is, stb_is, stb_is, trivial⟩) fun v3 H3 g3 p3 => ?_
    refine sq_set (evp_cat (Nat.le_of_ble_eq_true rfl) (evp_var rfl p3 (stb_lst ⟨stb_is, stb_is, stb_is, stb_is, stb_is, stb_is, stb_is, stb_is, stb_is, stb_is, stb_is, stb_is, trivial⟩)) (evp_lst (Nat.le_of_ble_eq_true rfl) (EvPs.cons stb_is (evp_isi (evp_var rfl (stb_er _ _ _ (((g0.tr g1).tr g2).tr g3) hE) stb_er) (X.ei i hi) (.own (C 12)) (X.kc i hi 12 (by decide))) (EvPs.cons stb_is (evp_isi (evp_var rfl (stb_er _ _ _ (((g0.tr g1).tr g2).tr g3) hE) stb_er) (X.ei i hi) (.own (C 13)) (X.kc i hi 13 (by decide))) (EvPs.cons stb_is (evp_isi (evp_var rfl (stb_er _ _ _ (((g0.tr g1).tr g2).tr g3) hE) stb_er) (X.ei i hi) (.own (C 14)) (X.kc i hi 14 (by decide))) EvPs.nil))) ⟨stb_is, stb_is, stb_is, trivial⟩) ⟨stb_is, stb_is, stb_is, stb_is, stb_is, stb_is, stb_is, stb_is, stb_is, stb_is, stb_is, stb_is, trivial⟩ ⟨stb_is, stb_is, stb_is, trivial⟩) fun v4 H4 g4 p4 => ?_
    refine sq_set (evp_cat (Nat.le_of_ble_eq_true rfl) (evp_var rfl p4 (stb_lst ⟨stb_is, stb_is, stb_is, stb_is, stb_is, stb_is, stb_is, stb_is, stb_is, stb_is, stb_is, stb_is, stb_is, stb_is, stb_is, trivial⟩)) (evp_lst (Nat.le_of_ble_eq_true rfl) (EvPs.cons stb_is (evp_isi (evp_var rfl (stb_er _ _ _ ((((g0.tr g1).tr g2).tr g3).tr g4) hE) stb_er) (X.ei i hi) (.own (C 15)) (X.kc i hi 15 (by decide))) (EvPs.cons stb_is (evp_isi (evp_var rfl (stb_er _ _ _ ((((g0.tr g1).tr g2).tr g3).tr g4) hE) stb_er) (X.ei i hi) (.own (C 16)) (X.kc i hi 16 (by decide))) EvPs.nil)) ⟨stb_is, stb_is, trivial⟩) ⟨stb_is, stb_is, stb_is, stb_is, stb_is, stb_is, stb_is, stb_is, stb_is, stb_is, stb_is, stb_is, stb_is, stb_is, stb_is, trivial⟩ ⟨stb_is, stb_is, trivial⟩) fun v5 H5 g5 p5 => ?_
    refine sq_set (evp_cat (Nat.le_of_ble_eq_true rfl) (evp_var rfl p5 (stb_lst ⟨stb_is, stb_is, stb_is, stb_is, stb_is, stb_is, stb_is, stb_is, stb_is, stb_is, stb_is, stb_is, stb_is, stb_is, stb_is, stb_is, stb_is, trivial⟩)) (evp_lst (Nat.le_of_ble_eq_true rfl) (EvPs.cons stb_is (evp_isi (evp_var rfl (stb_er _ _ _ (((((g0.tr g1).tr g2).tr g3).tr g4).tr g5) hE) stb_er) (X.ei i hi) (.own (C 17)) (X.kc i hi 17 (by decide))) (EvPs.cons stb_is (evp_isi (evp_var rfl (stb_er _ _ _ (((((g0.tr g1).tr g2).tr g3).tr g4).tr g5) hE) stb_er) (X.ei i hi) (.own (C 18)) (X.kc i hi 18 (by decide))) EvPs.nil)) ⟨stb_is, stb_is, trivial⟩) ⟨stb_is, stb_is, stb_is, stb_is, stb_is, stb_is, stb_is, stb_is, stb_is, stb_is, stb_is, stb_is, stb_is, stb_is, stb_is, stb_is, stb_is, trivial⟩ ⟨stb_is, stb_is, trivial⟩) fun v6 H6 g6 p6 => ?_
    obtain ⟨p, xs, rfl, hp, ap⟩ := p6
    have GG := ((((((g0.tr g1).tr g2).tr g3).tr g4).tr g5).tr g6)
    have len : xs.length = 19 := ap.len
    refine ⟨.ref p, rfl, p, xs, rfl, .inl (SqL.of hp), (xs.length : Int), rfl, by omega, by omega, fun D hD => ?_⟩
    have e19 : ((xs.length : Int)).toNat = 19 := by omega
    rw [e19]
    have atb : ∀ k : Nat, k < 19 → xs[k]? = some (.bl (decide (i = k))) := fun k hk => by
      have z : ∀ Ps : List PV, AllP Ps xs H6 → Ps = (List.range 19).map (fun j => IsP (.bl (decide (i = j)))) → xs[k]? = some (.bl (decide (i = k))) := fun Ps a e => by
        obtain ⟨u, hu, pu⟩ := a.at (i := k) (P := IsP (.bl (decide (i = k)))) (by rw [e, List.getElem?_map, List.getElem?_range hk]; rfl)
        rw [hu, show u = _ from pu]
      exact z _ ap rfl
    refine lc_range (lo := 0) (n := 19) (fun k H' => Grow H6 H' ∧ H' D = some (.lst (if i < k then [V.int i] else []))) ⟨grow_new hD, upd_same⟩ (fun k H' hk ⟨gH, hDk⟩ => ?_) (fun H' ⟨gH, hDk⟩ => ?_)
    · refine ⟨rfl, ?_⟩
      refine ⟨_, rfl, _, rfl, p, xs, _, _, rfl, rfl, SqL.of (gH _ _ hp), at_of (by omega) (atb k hk), _, rfl, ?_⟩
      by_cases c : i = k
      · show (if decide (i = k) = true then _ else _)
        rw [decide_eq_true c]
        refine iteT ⟨_, rfl, [], by rw [hDk, if_neg (by omega)], by decide, fun b o e => ?_, ?_⟩
        · rw [upd_ne (ne_of_none e hD)]
          exact gH b o e
        · rw [upd_same, if_pos (by omega), c, Int.zero_add]
          rfl
      · show (if decide (i = k) = true then _ else _)
        rw [decide_eq_false c]
        refine iteF ⟨gH, ?_⟩
        rw [hDk]
        by_cases l : i < k
        · rw [if_pos l, if_pos (by omega)]
        · rw [if_neg l, if_neg (by omega)]
    · rw [if_pos hi] at hDk
      exact q (.ref D) H' (GG.tr gH) ⟨D, _, rfl, hDk, rfl, trivial⟩
end
end B1
set_option maxRecDepth 100000
set_option maxHeartbeats 4000000
namespace B1
open PySem PySem.Spec PyProof.Rows L2 LP XO
def a40 : Str := ⟨(List.replicate (40 : Int).toNat (PySem.Str.ofString "a").cps).foldl (· ++ ·) #[]⟩
def rMulS : R2 := fun x y H Q => x = .str "a" ∧ y = .int 40 ∧ Q (.str a40) H
theorem op_mulS {X : Cx} : OpR X (binaryOp .Mult) rMulS := by
  intro pins s σ H x y v u Q I rx ry h
  obtain ⟨rfl, rfl, q⟩ := h
  obtain ⟨t, rfl⟩ := rx
  obtain ⟨t', rfl⟩ := ry
  refine PySem.P.mul_str (by decide) (fun _ _ => by decide +kernel) (fun _ _ => by decide +kernel) ?_
  rw [if_neg (by decide), if_neg (by decide +kernel)]
  refine ⟨by decide +kernel, ?_⟩
  exact ⟨.str a40, H, I.tok _, ⟨_, rfl⟩, q⟩
/-- the values of _law_value and what repr shows of them; none of them stands at p -/
inductive VM (p : Addr) (H : Hp) : V → PyData → Prop
  | v0 : VM p H .non .none
  | v1 : VM p H (.bl true) (.bool true)
  | v2 : VM p H (.int 0) (.int 0)
  | v3 : VM p H (.int (-7)) (.int (-7))
  | v4 : VM p H (.int (10 ^ (59 : Int).toNat)) (.int (10 ^ (59 : Int).toNat))
  | v5 : VM p H (.str "") (.str "")
  | v6 : VM p H (.str "wt") (.str "wt")
  | v7 : VM p H (.str "letters") (.str "letters")
  | v8 (a : Addr) : a ≠ p → a ≠ sysModules → H a = some (.lst [.int 1, .str "a"]) → VM p H (.ref a) (.list [.int 1, .str "a"])
  | v9 (a : Addr) : a ≠ p → H a = some (.tup []) → VM p H (.ref a) (.tuple [])
  | v10 (a : Addr) : a ≠ p → H a = some (.dK [(Sum.inr "w", .int 1)]) → VM p H (.ref a) (.dict [(.str "w", .int 1)])
  | v11 : VM p H (.str a40) (.str a40)
theorem VM.but {p : Addr} {H H' : Hp} {v : V} {d : PyData} (b : But p H H') (h : VM p H v d) : VM p H' v d := by
  cases h with
  | v0 => exact .v0
  | v1 => exact .v1
  | v2 => exact .v2
  | v3 => exact .v3
  | v4 => exact .v4
  | v5 => exact .v5
  | v6 => exact .v6
  | v7 => exact .v7
  | v8 a n m e => exact .v8 a n m (b _ _ n e)
  | v9 a n e => exact .v9 a n (b _ _ n e)
  | v10 a n e => exact .v10 a n (b _ _ n e)
  | v11 => exact .v11
theorem VM.rd {p : Addr} {H : Hp} {v : V} {d : PyData} (h : VM p H v d) : RD H v d := by
  cases h with
  | v0 => exact .non
  | v1 => exact .bl _
  | v2 => exact .int _
  | v3 => exact .int _
  | v4 => exact .int _
  | v5 => exact .str _
  | v6 => exact .str _
  | v7 => exact .str _
  | v8 a n m e => exact .lst e m (.cons (.int _) (.cons (.str _) .nil))
  | v9 a n e => exact .tup e .nil
  | v10 a n e => exact .dic e
  | v11 => exact .str _
def menu : List PyData := [.none, .bool true, .int 0, .int (-7), .int (10 ^ (59 : Int).toNat), .str "", .str "wt", .str "letters", .list [.int 1, .str "a"], .tuple [], .dict [(.str "w", .int 1)], .str a40]
theorem VM.mem {p : Addr} {H : Hp} {v : V} {d : PyData} (h : VM p H v d) : d ∈ menu := by
  unfold menu
  cases h <;> simp
theorem grow_but {p : Addr} {H H' : Hp} (g : Grow H H') : But p H H' := fun a o _ e => g a o e
def VMp (p : Addr) : PV := fun v H => ∃ d, VM p H v d
theorem stb_vm {p : Addr} : Stb (VMp p) := fun v H H' g ⟨d, h⟩ => ⟨d, h.but (grow_but g)⟩
theorem stb_rep {p : Addr} : ∀ n : Nat, StbA (List.replicate n (VMp p))
  | 0 => trivial
  | n + 1 => ⟨stb_vm, stb_rep n⟩
def spValue : Sp := fun vs H Q _ => ∃ (p l : Addr) (ns : List Int) (k r : Int), vs = [.ref p] ∧ PenAt H p l ns k r ∧ k ≤ 10000 ∧
  ∀ (v : V) (d : PyData) (k' r' : Int) (H' : Hp), But p H H' → PenAt H' p l ns k' r' → k' ≤ k + 1 → VM p H' v d → Q v H'
section
variable {σ : L2.St} {H : Hp} {p : Addr} {o : HO} {v : V} {te : TE}
theorem evp_sc (h : EvP te σ H (IsP v)) (m : ∀ H', ∃ d, VM p H' v d) : EvP te σ H (VMp p) := h.imp fun u H' e => by
  cases (show u = v from e)
  exact m H'
theorem evp_lm (hp : H p = some o) : EvP (tLstN (tCons (tC (.int 1)) (tCons (tC (.str "a")) tNil))) σ H (VMp p) := fun H1 g Q q =>
  ⟨by show 2 ≤ sizeLine; decide, fun a ha na => q _ _ (grow_new ha) ⟨_, .v8 a (fun e => by rw [e, g _ _ hp] at ha; cases ha) na upd_same⟩⟩
theorem evp_tm (hp : H p = some o) : EvP (tTup tNil) σ H (VMp p) := fun H1 g Q q =>
  ⟨by show 0 ≤ sizeLine; decide, fun a ha => q _ _ (grow_new ha) ⟨_, .v9 a (fun e => by rw [e, g _ _ hp] at ha; cases ha) upd_same⟩⟩
theorem evp_dm (hp : H p = some o) : EvP (tDisp [(tC (.str "w"), tC (.int 1))]) σ H (VMp p) := fun H1 g Q q => fun a ha => by
  refine ⟨upd_same, [(Sum.inr "w", .int 1)], rfl, by decide, ?_⟩
  rw [upd_upd]
  exact q _ _ (grow_new ha) ⟨_, .v10 a (fun e => by rw [e, g _ _ hp] at ha; cases ha) upd_same⟩
end
section
variable {P : Program} {w : World} {K : PySem.W.Frag} {mg : Str → Option Value} {base : Heap} {C I : Nat → Addr} {CF CM : Addr}
/-- a def of the top and how it is found -/
structure At (K : PySem.W.Frag) (mg : Str → Option Value) (x : Str) (f : Addr) (fd : FuncData) (ps : List Str) : Prop where
  mg : mg x = some (.ref f)
  kp : PySem.W.keepIn K (.ref f) = true
  b : Binds K fd ps []
theorem scValue : FnScope ["_law_pen_here", "_law_some"] ["_law_pen_here"] (defScope sValue) := ⟨rfl, rfl, rfl, by decide +kernel, rfl, by decide +kernel, by decide +kernel⟩
theorem ok_value {f fD : Addr} {fd fdD : FuncData} (F : Fun K "_law_value" "_law_value" sValue f fd) (T : Bl2 mg) (G_law_draw : FnOk P w K mg base CX0 1 fD fdD ["_law_pen_here", "_law_many"] spDraw) (D_law_draw : At K mg "_law_draw" fD fdD ["_law_pen_here", "_law_many"]) :
    FnOk P w K mg base CX0 2 f fd ["_law_pen_here"] spValue := by
  refine F.ok scValue (fun vs H Q E h => ?_) (fun cdv A outer s H vs Q E hr h => ?_)
  · obtain ⟨p, l, ns, k, r, rfl, _⟩ := h
    rfl
  · obtain ⟨p, l, ns, k, r, rfl, hP, hk, q⟩ := h
    have nd := scValue.nd
    refine ⟨_, (pss_cons
        (ps_set (i := 1) nd rfl (Or.inl rfl) (pe_lst (pa_cons pe_non (pa_cons pe_bl (pa_cons pe_int (pa_cons (pe_un un_neg pe_int) (pa_cons (pe_op op_pow pe_int pe_int) (pa_cons pe_str (pa_cons pe_str (pa_cons pe_str (pa_cons (XO.pe_lstN (pa_cons pe_int (pa_cons pe_str pa_nil))) (pa_cons (pe_tup pa_nil) (pa_cons (pe_disp (pps_cons pe_str pe_int pps_nil) (by rfl) (by rfl) (fun z => by cases z) (by decide)) (pa_cons (pe_op op_mulS pe_str pe_int) pa_nil))))))))))))))
      (pss_one
        (ps_ret (pe_ix ix_list (pv 1) (pe_call G_law_draw (hr.mono (by decide)) (by rfl) D_law_draw.mg D_law_draw.kp D_law_draw.b .nil pass0 (pa_cons (pv 0) (pa_cons (pe_callB call_len_seq (by rfl) T.len PySem.boot_len (pa_cons (pv 1) pa_nil)) pa_nil))) (fun _ _ => rfl))))), ?_⟩
    show tSeq _ _ _ [some (V.ref p), none] H
    refine sq_set (P := LstP (List.replicate 12 (VMp p))) (evp_lst (Nat.le_of_ble_eq_true rfl) (EvPs.cons stb_vm (evp_sc evp_c fun _ => ⟨_, .v0⟩) (EvPs.cons stb_vm (evp_sc evp_c fun _ => ⟨_, .v1⟩) (EvPs.cons stb_vm (evp_sc evp_c fun _ => ⟨_, .v2⟩)
      (EvPs.cons stb_vm (evp_sc (v := .int (-7)) (fun H1 g Q q => ⟨7, rfl, q _ H1 grow_rfl rfl⟩) fun _ => ⟨_, .v3⟩) (EvPs.cons stb_vm (evp_sc (v := .int (10 ^ (59 : Int).toNat)) (fun H1 g Q q => ⟨10, 59, rfl, rfl, ⟨by decide, by decide, by decide⟩, q _ H1 grow_rfl rfl⟩) fun _ => ⟨_, .v4⟩)
      (EvPs.cons stb_vm (evp_sc evp_c fun _ => ⟨_, .v5⟩) (EvPs.cons stb_vm (evp_sc evp_c fun _ => ⟨_, .v6⟩) (EvPs.cons stb_vm (evp_sc evp_c fun _ => ⟨_, .v7⟩) (EvPs.cons stb_vm (evp_lm hP.pen) (EvPs.cons stb_vm (evp_tm hP.pen) (EvPs.cons stb_vm (evp_dm hP.pen)
      (EvPs.cons stb_vm (evp_sc (v := .str a40) (fun H1 g Q q => ⟨rfl, rfl, q _ H1 grow_rfl rfl⟩) fun _ => ⟨_, .v11⟩) EvPs.nil)))))))))))) (stb_rep 12)) fun v0 H0 g0 p0 => ?_
    obtain ⟨b, xs, rfl, hb, ab⟩ := p0
    have len : xs.length = 12 := ab.len
    have nbp : b ≠ p := fun e => by
      rw [e, g0 _ _ hP.pen] at hb
      cases hb
      cases len
    have hP0 : PenAt H0 p l ns k r := hP.but (grow_but g0) (g0 _ _ hP.pen) hP.k0
    refine ⟨_, rfl, _, rfl, _, rfl, b, xs, rfl, .inl (SqL.of hb), ?_⟩
    refine ⟨p, l, ns, k, r, (xs.length : Int), rfl, hP0, hk, by omega, by omega, fun d k' r' H' d0 d1 hk' bt hP' => ?_⟩
    have hb' : H' b = some (.lst xs) := bt _ _ nbp hb
    obtain ⟨j, hj, e⟩ : ∃ j : Nat, j < 12 ∧ d = (j : Int) := ⟨d.toNat, by omega, by omega⟩
    obtain ⟨u, hu, m, pu⟩ := ab.at (i := j) (P := VMp p) (by rw [List.getElem?_replicate, if_pos hj])
    refine ⟨b, xs, d, u, rfl, rfl, SqL.of hb', at_of e hu, ?_⟩
    exact q u m k' r' H' ((grow_but g0).trans bt) hP' hk' (pu.but bt)
end
end B1
set_option maxRecDepth 100000
set_option maxHeartbeats 4000000
namespace B1
open PySem PySem.Spec PyProof.Rows L2 LP XO
/-- what repr asks of data -/
structure Sh (d : PyData) : Prop where
  s : d.showable = true
  h : d.depth ≤ 64
  l : d.shown.length ≤ sizeLine
def oneB (d : PyData) : Bool := d.showable && decide (d.depth ≤ 1) && decide (d.shown.length ≤ 100)
theorem one_menu : ∀ d ∈ menu, oneB d = true := by decide +kernel
theorem one_of {d : PyData} (h : d ∈ menu) : d.showable = true ∧ d.depth ≤ 1 ∧ d.shown.length ≤ 100 := by
  have z := one_menu d h
  unfold oneB at z
  simp only [Bool.and_eq_true, decide_eq_true_eq] at z
  exact ⟨z.1.1, z.1.2, z.2⟩
theorem sh_one {d : PyData} (h : d ∈ menu) : Sh d := by
  obtain ⟨a, b, c⟩ := one_of h
  exact ⟨a, by omega, Nat.le_trans c (by decide)⟩
theorem text_le : ∀ (ts : List Str) (k : Nat) (acc : Str), (∀ t ∈ ts, t.length ≤ 100) → (textFrom k acc ts).length ≤ acc.length + 102 * ts.length
  | [], k, acc, _ => by
    show acc.length ≤ _
    omega
  | t :: r, k, acc, h => by
    have ih := text_le r (k + 1) (acc ++ (if k > 0 then ", " else "" : String) ++ t) fun x hx => h x (List.mem_cons_of_mem _ hx)
    have ht := h t List.mem_cons_self
    have e : (acc ++ (if k > 0 then ", " else "" : String) ++ t).length = acc.length + (if k > 0 then 2 else 0) + t.length := by
      rw [strLen_append, strLen_append]
      split <;> rfl
    rw [e] at ih
    show (textFrom (k + 1) (acc ++ (if k > 0 then ", " else "" : String) ++ t) r).length ≤ _
    rw [List.length_cons]
    have c2 : (if k > 0 then 2 else 0 : Nat) ≤ 2 := by split <;> omega
    omega
theorem all_of : ∀ ds : List PyData, (∀ d ∈ ds, d ∈ menu) → PyData.showableAll ds = true ∧ PyData.depthAll ds ≤ 1 ∧ (∀ t ∈ PyData.shownAll ds, t.length ≤ 100) ∧ (PyData.shownAll ds).length = ds.length
  | [], _ => ⟨rfl, Nat.zero_le _, fun _ h => (nomatch h), rfl⟩
  | d :: ds, h => by
    obtain ⟨a, b, c⟩ := one_of (h d List.mem_cons_self)
    obtain ⟨i1, i2, i3, i4⟩ := all_of ds fun x hx => h x (List.mem_cons_of_mem _ hx)
    refine ⟨?_, ?_, fun t ht => ?_, ?_⟩
    · show (d.showable && PyData.showableAll ds) = true
      rw [a, i1]
      rfl
    · show max d.depth (PyData.depthAll ds) ≤ 1
      omega
    · rcases List.mem_cons.mp (show t ∈ d.shown :: PyData.shownAll ds from ht) with rfl | z
      · exact c
      · exact i3 t z
    · show (d.shown :: PyData.shownAll ds).length = _
      rw [List.length_cons, List.length_cons, i4]
theorem sh_list {ds : List PyData} (h : ∀ d ∈ ds, d ∈ menu) (n : ds.length ≤ 20) : Sh (.list ds) := by
  obtain ⟨a, b, c, e⟩ := all_of ds h
  refine ⟨a, ?_, ?_⟩
  · show PyData.depthAll ds + 1 ≤ 64
    omega
  · show (listText (PyData.shownAll ds)).length ≤ sizeLine
    unfold listText
    rw [strLen_append]
    have z := text_le (PyData.shownAll ds) 0 "[" c
    rw [e] at z
    have z1 : (PySem.Str.ofString "[").length = 1 := by decide +kernel
    have z2 : (PySem.Str.ofString "]").length = 1 := by decide +kernel
    have z3 : 3000 ≤ sizeLine := by decide
    have z' : (textFrom 0 (PySem.Str.ofString "[") (PyData.shownAll ds)).length ≤ (PySem.Str.ofString "[").length + 102 * ds.length := z
    show (textFrom 0 (PySem.Str.ofString "[") (PyData.shownAll ds)).length + (PySem.Str.ofString "]").length ≤ sizeLine
    omega
end B1
set_option maxRecDepth 100000
set_option maxHeartbeats 4000000
namespace LP
open PySem PySem.Spec PyProof.Rows L2
def EvB (c : TT) (σ : L2.St) (H : Hp) (b : Bool) : Prop := ∀ H1, Grow H H1 → ∀ Q : Bool → Hp → Prop, (∀ H2, Grow H1 H2 → Q b H2) → c σ H1 Q
section
variable {K : PySem.W.Frag} {σ : L2.St} {H H' : Hp} {te ta tb : TE} {tl : TA} {P R : PV} {Ps Qs : List PV} {v : V} {i j : Nat} {c c' : TT} {D : Ends} {t1 u : TS}
theorem sq_no (h : EvB c σ H false) (q : ∀ H', Grow H H' → u D σ H') : tSeq (tIfS c t1 tNext) u D σ H := h H grow_rfl _ fun H2 g => iteF (q H2 g)
theorem ls_no (h : EvB c σ H false) (q : ∀ H', Grow H H' → D.nx σ H') : tIfS c t1 tNext D σ H := h H grow_rfl _ fun H2 g => iteF (q H2 g)
theorem evb_or (h : EvB c σ H false) (h' : EvB c' σ H false) : EvB (tOr c c') σ H false := fun H1 g Q q => h H1 g _ fun H2 g2 => iteF (h' H2 (g.tr g2) Q fun H3 g3 => q H3 (g2.tr g3))
theorem sq_par (h : tl σ H fun vs H1 => ∃ x y, vs = [x, y] ∧ u D ((σ.set i (some x)).set j (some y)) H1) : tSeq (tPar i j tl) u D σ H := h
theorem sq_asg {g : TG} (h : te σ H fun x H1 => g x σ H1 fun σ' H' => u D σ' H') : tSeq (tAsg te g) u D σ H := h
theorem EvP.impG (m : ∀ v H', Grow H H' → P v H' → R v H') (h : EvP te σ H P) : EvP te σ H R := fun H1 g Q q => h H1 g Q fun v H2 g2 p => q v H2 g2 (m v H2 (g.tr g2) p)
/-- for x in range(n), n told by the arguments; the body is read for any next turn -/
theorem sq_for {n : Nat} (Pv : Nat → L2.St → Hp → Prop) (ha : EvPs tl σ H [IsP (.int (n : Int))]) (big : n ≤ 1000000) (h0 : ∀ H', Grow H H' → Pv 0 σ H')
    (hs : ∀ k σ' H', k < n → Pv k σ' H' → ∀ D' : Ends, (∀ σ2 H2, Pv (k + 1) σ2 H2 → D'.nx σ2 H2) → t1 D' (σ'.set i (some (.int (k : Int)))) H') (hd : ∀ σ' H', Pv n σ' H' → u D σ' H') :
    tSeq (tFor (iRng1 tl) (gName i) t1) u D σ H := ha H grow_rfl _ fun vs H1 g p => by
  match vs, p with
  | [x], ⟨e, _⟩ =>
    cases (show x = .int (n : Int) from e)
    refine ⟨(n : Int), rfl, by omega, by omega, ?_⟩
    rw [Int.toNat_natCast]
    refine for_range (lo := 0) (n := n) Pv (h0 H1 g) (fun k σ' H' hk pv => ?_) hd
    have z := hs k σ' H' hk pv { nx := Pv (k + 1), ct := Pv (k + 1), bk := u D, rt := D.rt } (fun _ _ x => x)
    rw [show (0 : Int) + (k : Int) = (k : Int) by omega]
    exact z
theorem AllP.rep {xs : List V} (h : AllP Ps xs H) : ∀ n : Nat, AllP (List.replicate n Ps).flatten (List.replicate n xs).flatten H
  | 0 => trivial
  | n + 1 => by
    show AllP (Ps ++ (List.replicate n Ps).flatten) (xs ++ (List.replicate n xs).flatten) H
    exact h.app (AllP.rep h n)
theorem StbA.rep (s : StbA Ps) : ∀ n : Nat, StbA (List.replicate n Ps).flatten
  | 0 => trivial
  | n + 1 => by
    show StbA (Ps ++ (List.replicate n Ps).flatten)
    exact s.app (StbA.rep s n)
theorem evp_rep {k : Int} (k0 : 0 ≤ k) (k1 : k ≤ 1000) (n : Ps.length ≤ 1000) (h : EvP ta σ H (LstP Ps)) (s : StbA Ps) : EvP (tOp rRep ta (tC (.int k))) σ H (LstP (List.replicate k.toNat Ps).flatten) := fun H1 g Q q =>
  h H1 g _ fun x H2 g2 ⟨p, xs, ex, hp, ap⟩ => by
    subst ex
    refine ⟨p, k, xs, rfl, rfl, hp, by omega, by omega, ?_, fun z hz => q _ _ (g2.tr (grow_new hz)) ⟨z, _, rfl, upd_same, (ap.rep _).grow (s.rep _) (grow_new hz)⟩⟩
    rw [ap.len]
    exact Nat.le_trans (Nat.mul_le_mul n (show k.toNat ≤ 1000 by omega)) (by decide)
theorem evp_repN {k : Int} (k0 : 0 ≤ k) (k1 : k < 1000) (n : Ps.length ≤ 1000) (h : EvP ta σ H (LstP Ps)) (s : StbA Ps) : EvP (tOp XO.rRepN ta (tC (.int k))) σ H (LstN (List.replicate k.toNat Ps).flatten) := fun H1 g Q q =>
  h H1 g _ fun x H2 g2 ⟨p, xs, ex, hp, ap⟩ => by
    subst ex
    refine ⟨p, xs, k, rfl, rfl, hp, k0, k1, ?_, fun z hz nz => q _ _ (g2.tr (grow_new hz)) ⟨z, _, rfl, nz, upd_same, (ap.rep _).grow (s.rep _) (grow_new hz)⟩⟩
    rw [ap.len]
    exact n
/-! ### what repr shows -/
def ShP (d : PyData) : PV := fun v H => XO.RD H v d
def RelA (H : Hp) : List PV → List PyData → Prop
  | [], [] => True
  | P :: Ps, d :: ds => (∀ v, P v H → XO.RD H v d) ∧ RelA H Ps ds
  | _, _ => False
theorem rds_of {H : Hp} : ∀ {Ps : List PV} {ds : List PyData} {xs : List V}, RelA H Ps ds → AllP Ps xs H → XO.RDs H xs ds
  | [], [], [], _, _ => .nil
  | _ :: _, _ :: _, _ :: _, ⟨r, rs⟩, ⟨a, as⟩ => .cons (r _ a) (rds_of rs as)
theorem sh_lst {Ps : List PV} {ds : List PyData} {v : V} (r : RelA H Ps ds) (h : LstN Ps v H) : ShP (.list ds) v H := by
  obtain ⟨p, xs, rfl, n, e, a⟩ := h
  exact .lst e n (rds_of r a)
theorem ne_repr {d : PyData} (s : B1.Sh d) (ha : EvP ta σ H (ShP d)) (hb : EvP tb σ H (ShP d)) : EvB (tTest (tOp rNe (tCB XO.rRepr (tCons ta tNil)) (tCB XO.rRepr (tCons tb tNil)))) σ H false := fun H1 g Q q =>
  ha H1 g _ fun x H2 g2 rx => ⟨x, d, rfl, rx, s.s, s.h, s.l, hb H2 (g.tr g2) _ fun y H3 g3 ry => ⟨y, d, rfl, ry, s.s, s.h, s.l, rfl, false, by rw [decide_eq_true (rfl : V.str d.shown = V.str d.shown)]; rfl, q H3 (g2.tr g3)⟩⟩
end
end LP
set_option maxRecDepth 100000
set_option maxHeartbeats 4000000
namespace B1
open PySem PySem.Spec PyProof.Rows L2 LP XO
theorem all_at (C : Nat → Addr) (one two : V) : ∀ i, i < 19 → ∃ fs, (all19 C one two)[i]? = some (Er (C i) fs)
  | 0, _ => ⟨_, rfl⟩
  | 1, _ => ⟨_, rfl⟩
  | 2, _ => ⟨_, rfl⟩
  | 3, _ => ⟨_, rfl⟩
  | 4, _ => ⟨_, rfl⟩
  | 5, _ => ⟨_, rfl⟩
  | 6, _ => ⟨_, rfl⟩
  | 7, _ => ⟨_, rfl⟩
  | 8, _ => ⟨_, rfl⟩
  | 9, _ => ⟨_, rfl⟩
  | 10, _ => ⟨_, rfl⟩
  | 11, _ => ⟨_, rfl⟩
  | 12, _ => ⟨_, rfl⟩
  | 13, _ => ⟨_, rfl⟩
  | 14, _ => ⟨_, rfl⟩
  | 15, _ => ⟨_, rfl⟩
  | 16, _ => ⟨_, rfl⟩
  | 17, _ => ⟨_, rfl⟩
  | 18, _ => ⟨_, rfl⟩
  | i + 19, h => absurd h (by omega)
section
variable {K : PySem.W.Frag} {σ : L2.St} {H : Hp} {te ta tb : TE} {tl : TA} {v one two u : V} {i : Nat} {C I : Nat → Addr} {E : XK} {b : Bool} {P : PV} {c : TT}
theorem allp_is : ∀ {xs ys : List V} {H : Hp}, AllP (xs.map IsP) ys H → ys = xs
  | [], [], _, _ => rfl
  | _ :: _, _ :: _, _, ⟨e, r⟩ => by
    rw [show _ = _ from e, allp_is r]
theorem ne_data {xs : List V} {ds : List PyData} (hd : ∀ H, DpAll K H xs ds) (sh : SeqAt.shaped (.list ds) = true) (hx : EvP ta σ H (LstP (xs.map IsP))) (hy : EvP tb σ H (LstP (xs.map IsP))) : EvB (tTest (tOp (rNeD K) ta tb)) σ H false := fun H1 g Q q =>
  hx H1 g _ fun x H2 g2 ⟨p, us, ex, hp, ap⟩ => hy H2 (g.tr g2) _ fun y H3 g3 ⟨p', ws, ey, hp', ap'⟩ => by
    subst ex ey
    rw [allp_is ap] at hp
    rw [allp_is ap'] at hp'
    refine ⟨.list ds, .list ds, .lst (SqL.of (g3 _ _ hp)) (hd _), .lst (SqL.of hp') (hd _), sh, sh, false, ?_, q H3 (g2.tr g3)⟩
    rw [SeqAt.eqv_refl _ (SeqAt.canLay_of_shaped sh)]
    rfl
theorem evp_if (h : EvB c σ H b) (h1 : b = true → EvP ta σ H P) (h2 : b = false → EvP tb σ H P) : EvP (tIf c ta tb) σ H P := fun H1 g Q q => h H1 g _ fun H2 g2 => by
  cases b with
  | true => exact iteT (h1 rfl H2 (g.tr g2) Q fun v H3 g3 p => q v H3 (g2.tr g3) p)
  | false => exact iteF (h2 rfl H2 (g.tr g2) Q fun v H3 g3 p => q v H3 (g2.tr g3) p)
theorem evp_made (h1 : σ[3]? = some (some one)) (h2 : σ[4]? = some (some two)) : EvP (tCall (spMade C) [] E (tCons (tVar 3) (tCons (tVar 4) tNil))) σ H (LstP (all19 C one two)) := fun H1 g Q q =>
  ⟨one, h1, two, h2, one, two, rfl, fun v H2 g2 p => q v H2 g2 p⟩
theorem evp_fields (h : σ[5]? = some (some v)) (p : LstP (all19 C one two) v H) : EvP (tCall (spFields C) [] E (tCons (tVar 5) tNil)) σ H (LstN (List.replicate 13 (IsP one) ++ [IsP two])) := fun H1 g Q q =>
  ⟨v, h, v, one, two, rfl, stb_lst (stb19 C one two) _ _ _ g p, fun u H2 g2 p2 => q u H2 g2 p2⟩
theorem evp_at (h : σ[5]? = some (some v)) (h6 : σ[6]? = some (some (.int (i : Int)))) (hi : i < 19) (p : LstP (all19 C one two) v H) : EvP (tOp (rIxL K) (tVar 5) (tVar 6)) σ H (fun u H' => ∃ fs, Er (C i) fs u H') := fun H1 g Q q => by
  obtain ⟨a, xs, rfl, ha, ap⟩ := stb_lst (stb19 C one two) _ _ _ g p
  obtain ⟨fs, e⟩ := all_at C one two i hi
  obtain ⟨u, hu, pu⟩ := ap.at e
  exact ⟨.ref a, h, .int i, h6, a, xs, i, u, rfl, rfl, SqL.of ha, atI_nat hu, q u H1 grow_rfl ⟨fs, pu⟩⟩
theorem evp_classes (hi : i < 19) (h : EvP te σ H (fun u H' => ∃ fs, Er (C i) fs u H')) : EvP (tCall (spClasses C) [] E (tCons te tNil)) σ H (LstP ([V.int i].map IsP)) := fun H1 g Q q =>
  h H1 g _ fun u H2 g2 ⟨fs, p⟩ => ⟨u, i, fs, rfl, hi, p, fun w H3 g3 pw => q w H3 (g2.tr g3) pw⟩
theorem evp_above (hi : i < 19) (h : EvP te σ H (fun u H' => ∃ fs, Er (C i) fs u H')) : EvP (tCall (spAbove C) [] E (tCons te tNil)) σ H (LstP ([V.bl (decide (i < 17)), V.bl (decide (16 < i)), V.bl (decide (i < 17)), V.bl (decide (16 < i))].map IsP)) := fun H1 g Q q =>
  h H1 g _ fun u H2 g2 ⟨fs, p⟩ => ⟨u, i, fs, rfl, hi, p, fun w H3 g3 pw => q w H3 (g2.tr g3) pw⟩
theorem dp_bools {b c : Bool} (H : Hp) : DpAll K H [V.bl b, V.bl c, V.bl b, V.bl c] [.bool b, .bool c, .bool b, .bool c] := .cons (.bl _) (.cons (.bl _) (.cons (.bl _) (.cons (.bl _) .nil)))
theorem evp_side (h6 : σ[6]? = some (some (.int (i : Int)))) : EvP (tIf (tTest (tOp (rI0 fun i j => V.bl (decide (j < i))) (tVar 6) (tC (.int 16)))) (tOp rRep (tLst (tCons (tC (.bl false)) (tCons (tC (.bl true)) tNil))) (tC (.int 2))) (tOp rRep (tLst (tCons (tC (.bl true)) (tCons (tC (.bl false)) tNil))) (tC (.int 2)))) σ H
    (LstP ([V.bl (decide (i < 17)), V.bl (decide (16 < i)), V.bl (decide (i < 17)), V.bl (decide (16 < i))].map IsP)) := by
  refine evp_if (b := decide (16 < i)) (fun H1 g Q q => ⟨_, h6, (i : Int), 16, rfl, rfl, decide (16 < i), ?_, q H1 grow_rfl⟩) (fun e => ?_) (fun e => ?_)
  · show V.bl (decide ((16 : Int) < (i : Int))) = _
    rw [show decide ((16 : Int) < (i : Int)) = decide (16 < i) from decide_eq_decide.mpr (by omega)]
  · have l := of_decide_eq_true e
    rw [decide_eq_false (show ¬ i < 17 by omega), decide_eq_true l]
    exact evp_rep (by decide) (by decide) (Nat.le_of_ble_eq_true rfl) (evp_lst (Nat.le_of_ble_eq_true rfl) (EvPs.cons stb_is evp_c (EvPs.cons stb_is evp_c EvPs.nil)) ⟨stb_is, stb_is, trivial⟩) ⟨stb_is, stb_is, trivial⟩
  · have l := of_decide_eq_false e
    rw [decide_eq_true (show i < 17 by omega), decide_eq_false l]
    exact evp_rep (by decide) (by decide) (Nat.le_of_ble_eq_true rfl) (evp_lst (Nat.le_of_ble_eq_true rfl) (EvPs.cons stb_is evp_c (EvPs.cons stb_is evp_c EvPs.nil)) ⟨stb_is, stb_is, trivial⟩) ⟨stb_is, stb_is, trivial⟩
theorem rel_rep {v : V} {d : PyData} (h : RD H v d) : ∀ n : Nat, RelA H (List.replicate n (IsP v)) (List.replicate n d)
  | 0 => trivial
  | n + 1 => ⟨fun u e => by rw [show u = v from e]; exact h, rel_rep h n⟩
theorem RelA.app : ∀ {Ps Qs : List PV} {ds es : List PyData}, RelA H Ps ds → RelA H Qs es → RelA H (Ps ++ Qs) (ds ++ es)
  | [], _, [], _, _, b => b
  | _ :: _, _, _ :: _, _, ⟨x, y⟩, b => ⟨x, RelA.app y b⟩
theorem is_rd {v : V} {d : PyData} (h : RD H v d) : ∀ u, IsP v u H → RD H u d := fun u e => by
  rw [show u = v from e]
  exact h
end
end B1
set_option maxRecDepth 100000
set_option maxHeartbeats 8000000
namespace B1
open PySem PySem.Spec PyProof.Rows L2 LP XO
theorem stb_isrep {v : V} : ∀ n : Nat, StbA (List.replicate n (IsP v))
  | 0 => trivial
  | n + 1 => ⟨stb_is, stb_isrep n⟩
theorem scLaw : FnScope ["_law_script", "_law_pen_here", "_law_turn", "_law_one", "_law_two", "_law_found", "_law_at", "_law_text", "_law_told"] ["_law_script"] (defScope sLaw) := ⟨rfl, rfl, rfl, by decide +kernel, rfl, by decide +kernel, by decide +kernel⟩
section
variable {P : Program} {w : World} {K : PySem.W.Frag} {mg : Str → Option Value} {base : Heap} {C I : Nat → Addr} {CF CM : Addr}
/-- the law's body gives True -/
theorem law_body {f a : Addr} {cdv : Value} {s : Shared} {H : Hp} {E : XK} {ns : List Int} {fP fV fM fF fC fA : Addr} {dP dV dM dF dC dA : FuncData} (X : Tx K mg C I CF CM) (T : Bl2 mg)
    (G_law_pen : FnOk P w K mg base CX0 1 fP dP ["_law_script"] (spPen K)) (D_law_pen : At K mg "_law_pen" fP dP ["_law_script"])
    (G_law_value : FnOk P w K mg base CX0 2 fV dV ["_law_pen_here"] spValue) (D_law_value : At K mg "_law_value" fV dV ["_law_pen_here"])
    (G_law_made : FnOk P w K mg base CX0 1 fM dM ["_law_one", "_law_two"] (spMade C)) (D_law_made : At K mg "_law_made" fM dM ["_law_one", "_law_two"])
    (G_law_fields : FnOk P w K mg base CX0 1 fF dF ["_law_found"] (spFields C)) (D_law_fields : At K mg "_law_fields" fF dF ["_law_found"])
    (G_law_classes : FnOk P w K mg base CX0 1 fC dC ["_law_error"] (spClasses C)) (D_law_classes : At K mg "_law_classes" fC dC ["_law_error"])
    (G_law_above : FnOk P w K mg base CX0 1 fA dA ["_law_error"] (spAbove C)) (D_law_above : At K mg "_law_above" fA dA ["_law_error"])
    (hS : SqL K H a (ns.map V.int)) (hl : ns.length ≤ 63) (hr : Room 4 (callerA.deeper (envOfC "law" (defScope sLaw) s.heap.objs.size f cdv))) :
    ∃ t, PSs (cxOf CX0 P w K mg base ["_law_script", "_law_pen_here", "_law_turn", "_law_one", "_law_two", "_law_found", "_law_at", "_law_text", "_law_told"] "law" (defScope sLaw) f cdv callerA [] s H E).nox (defBody sLaw) t ∧
      t { nx := fun _ _ => V.non = V.bl true, rt := fun v _ => v = V.bl true } [some (.ref a), none, none, none, none, none, none, none, none] H := by
  have nd := scLaw.nd
  have hg : (cxOf CX0 P w K mg base ["_law_script", "_law_pen_here", "_law_turn", "_law_one", "_law_two", "_law_found", "_law_at", "_law_text", "_law_told"] "law" (defScope sLaw) f cdv callerA [] s H E).nox.A.guards = some [] := by
    first | rfl | (simp [cxOf, Around.deeper, Around.under]; done)
  have hu : (cxOf CX0 P w K mg base ["_law_script", "_law_pen_here", "_law_turn", "_law_one", "_law_two", "_law_found", "_law_at", "_law_text", "_law_told"] "law" (defScope sLaw) f cdv callerA [] s H E).nox.A.units + 65 < cLine := by
    have := hr.un
    show (callerA.deeper (envOfC "law" (defScope sLaw) s.heap.objs.size f cdv)).units + 65 < cLine
    omega
  refine ⟨_, (pss_cons
        (ps_set (i := 1) nd rfl (Or.inl rfl) (pe_call G_law_pen (hr.mono (by decide)) (by rfl) D_law_pen.mg D_law_pen.kp D_law_pen.b .nil pass0 (pa_cons (pv 0) pa_nil)))
      (pss_cons
        (ps_for PassesOwn.never rfl (pi_range1 (by rfl) T.range (pa_cons pe_int pa_nil)) (pg_name (i := 2) nd rfl (Or.inl rfl))
          (pss_cons
            (ps_par (i := 3) (j := 4) (by rfl) nd rfl rfl (by decide) rfl rfl (pa_cons (pe_call G_law_value (hr.mono (by decide)) (by rfl) D_law_value.mg D_law_value.kp D_law_value.b .nil pass0 (pa_cons (pv 1) pa_nil)) (pa_cons (pe_call G_law_value (hr.mono (by decide)) (by rfl) D_law_value.mg D_law_value.kp D_law_value.b .nil pass0 (pa_cons (pv 1) pa_nil)) pa_nil)) (by rfl))
          (pss_cons
            (ps_set (i := 5) nd rfl (Or.inl rfl) (pe_call G_law_made (hr.mono (by decide)) (by rfl) D_law_made.mg D_law_made.kp D_law_made.b .nil pass0 (pa_cons (pv 3) (pa_cons (pv 4) pa_nil))))
          (pss_cons
            (ps_if (pt_cmpR op_ne (pe_callB (XO.call_repr hg hu) (by rfl) T.repr (by decide +kernel) (pa_cons (pe_call G_law_fields (hr.mono (by decide)) (by rfl) D_law_fields.mg D_law_fields.kp D_law_fields.b .nil pass0 (pa_cons (pv 5) pa_nil)) pa_nil)) (pe_callB (XO.call_repr hg hu) (by rfl) T.repr (by decide +kernel) (pa_cons (pe_op XO.op_catN (pe_op op_rep (pe_lst (pa_cons (pv 3) pa_nil)) pe_int) (pe_lst (pa_cons (pv 4) pa_nil))) pa_nil)) (nomark _))
              (pss_one
                (ps_ret pe_bl))
              pss_nil)
          (pss_cons
            (ps_for PassesOwn.never rfl (pi_range1 (by rfl) T.range (pa_cons (pe_callB call_len_seq (by rfl) T.len PySem.boot_len (pa_cons (pv 5) pa_nil)) pa_nil)) (pg_name (i := 6) nd rfl (Or.inl rfl))
              (pss_cons
                (ps_if (pt_cmpR (op_neD hr.units) (pe_call G_law_classes (hr.mono (by decide)) (by rfl) D_law_classes.mg D_law_classes.kp D_law_classes.b .nil pass0 (pa_cons (pe_ix ix_list (pv 5) (pv 6) (fun _ _ => rfl)) pa_nil)) (pe_lst (pa_cons (pv 6) pa_nil)) (nomark _))
                  (pss_one
                    (ps_ret pe_bl))
                  pss_nil)
              (pss_one
                (ps_if (pt_cmpR (op_neD hr.units) (pe_call G_law_above (hr.mono (by decide)) (by rfl) D_law_above.mg D_law_above.kp D_law_above.b .nil pass0 (pa_cons (pe_ix ix_list (pv 5) (pv 6) (fun _ _ => rfl)) pa_nil)) (pe_ifExp (pt_cmpR op_gt (pv 6) pe_int (nomark _)) (pe_op op_rep (pe_lst (pa_cons pe_bl (pa_cons pe_bl pa_nil))) pe_int) (pe_op op_rep (pe_lst (pa_cons pe_bl (pa_cons pe_bl pa_nil))) pe_int)) (nomark _))
                  (pss_one
                    (ps_ret pe_bl))
                  pss_nil))))
          (pss_cons
            (ps_set (i := 7) nd rfl (Or.inl rfl) (XO.pe_e2k PySem.F.excBase_ValueError PySem.F.store_ValueError X.e14 (hr.mono (by decide)) (by rfl) (pk_cons (pv 4) (pk_cons (pv 3) pk_nil))))
          (pss_cons
            (ps_set (i := 8) nd rfl (Or.inl rfl) (XO.pe_lstN (pa_cons (XO.pe_ef (pv 7)) (pa_cons (XO.pe_ef (pv 7)) (pa_cons (XO.pe_ef (XO.pe_e1k PySem.F.excBase_ValueError PySem.F.store_ValueError X.e2 (hr.mono (by decide)) (by rfl) (pk_cons (pv 3) pk_nil))) (pa_cons (XO.pe_ef (XO.pe_e1k PySem.F.excBase_LookupError PySem.F.store_LookupError X.e17 (hr.mono (by decide)) (by rfl) (pk_cons (pv 4) pk_nil))) pa_nil))))))
          (pss_cons
            (ps_if (PW.pt (pw_or (pt_cmpR op_ne (pe_callB (XO.call_repr hg hu) (by rfl) T.repr (by decide +kernel) (pa_cons (pv 8) pa_nil)) (pe_callB (XO.call_repr hg hu) (by rfl) T.repr (by decide +kernel) (pa_cons (XO.pe_lstN (pa_cons (pv 3) (pa_cons (pv 4) (pa_cons (pv 3) (pa_cons (pv 4) pa_nil))))) pa_nil)) (nomark _)) (pw_or1 (pt_cmpR op_ne (pe_callB (XO.call_repr hg hu) (by rfl) T.repr (by decide +kernel) (pa_cons (XO.pe_ef (XO.pe_e1k PySem.F.excBase_ValueError PySem.F.store_ValueError X.e9 (hr.mono (by decide)) (by rfl) (pk_cons (pv 3) pk_nil))) pa_nil)) (pe_callB (XO.call_repr hg hu) (by rfl) T.repr (by decide +kernel) (pa_cons (pv 3) pa_nil)) (nomark _)))))
              (pss_one
                (ps_ret pe_bl))
              pss_nil)
          (pss_cons
            (ps_if (PW.pt (pw_or (pt_cmpR op_ne (pe_callB (XO.call_repr hg hu) (by rfl) T.repr (by decide +kernel) (pa_cons (XO.pe_ef (XO.pe_e1k PySem.F.excBase_ValueError PySem.F.store_ValueError X.e11 (hr.mono (by decide)) (by rfl) (pk_cons (pv 4) pk_nil))) pa_nil)) (pe_callB (XO.call_repr hg hu) (by rfl) T.repr (by decide +kernel) (pa_cons (pv 4) pa_nil)) (nomark _)) (pw_or1 (pt_cmpR op_ne (pe_callB (XO.call_repr hg hu) (by rfl) T.repr (by decide +kernel) (pa_cons (XO.pe_ef (XO.pe_e1k PySem.F.excBase_ValueError PySem.F.store_ValueError X.e15 (hr.mono (by decide)) (by rfl) (pk_cons (pv 3) pk_nil))) pa_nil)) (pe_callB (XO.call_repr hg hu) (by rfl) T.repr (by decide +kernel) (pa_cons (pv 3) pa_nil)) (nomark _)))))
              (pss_one
                (ps_ret pe_bl))
              pss_nil)
          (pss_cons
            (ps_set (i := 8) nd rfl (Or.inl rfl) (pe_lst (pa_cons (XO.pe_ef (XO.pe_e1k PySem.F.excBase_ValueError PySem.F.store_ValueError X.e3 (hr.mono (by decide)) (by rfl) (pk_cons (pv 3) pk_nil))) (pa_cons (XO.pe_ef (XO.pe_e1k PySem.F.excBase_ValueError PySem.F.store_ValueError X.e4 (hr.mono (by decide)) (by rfl) (pk_cons (pv 3) pk_nil))) (pa_cons (XO.pe_ef (XO.pe_e1k PySem.F.excBase_ValueError PySem.F.store_ValueError X.e10 (hr.mono (by decide)) (by rfl) (pk_cons (pv 3) pk_nil))) pa_nil)))))
          (pss_cons
            (ps_set (i := 8) nd rfl (Or.inl rfl) (pe_op op_cat (pv 8) (pe_lst (pa_cons (XO.pe_ef (XO.pe_e1k PySem.F.excBase_ValueError PySem.F.store_ValueError X.e6 (hr.mono (by decide)) (by rfl) (pk_cons (pv 3) pk_nil))) (pa_cons (XO.pe_ef (XO.pe_e1k PySem.F.excBase_ValueError PySem.F.store_ValueError X.e7 (hr.mono (by decide)) (by rfl) (pk_cons (pv 3) pk_nil))) pa_nil)))))
          (pss_one
            (ps_if (pt_cmpR op_ne (pe_callB (XO.call_repr hg hu) (by rfl) T.repr (by decide +kernel) (pa_cons (pe_op XO.op_catN (pv 8) (pe_lst (pa_cons (XO.pe_ef (XO.pe_e1k PySem.F.excBase_ValueError PySem.F.store_ValueError X.e8 (hr.mono (by decide)) (by rfl) (pk_cons (pv 3) pk_nil))) (pa_cons (XO.pe_ef (XO.pe_e1k PySem.F.excBase_LookupError PySem.F.store_LookupError X.e18 (hr.mono (by decide)) (by rfl) (pk_cons (pv 3) pk_nil))) pa_nil)))) pa_nil)) (pe_callB (XO.call_repr hg hu) (by rfl) T.repr (by decide +kernel) (pa_cons (pe_op XO.op_repN (pe_lst (pa_cons (pv 3) pa_nil)) pe_int) pa_nil)) (nomark _))
              (pss_one
                (ps_ret pe_bl))
              pss_nil)))))))))))))
      (pss_one
        (ps_ret pe_bl)))), ?_⟩
  refine sq_asg ⟨_, rfl, a, ns, rfl, hS, hl, fun p l H0 np k0 hP0 => ?_⟩
  refine sq_for (n := 4) (fun k σ H' => ∃ y2 y3 y4 y5 y6 y7 y8 : Option V, σ = [some (.ref a), some (.ref p), y2, y3, y4, y5, y6, y7, y8] ∧ ∃ kk r, PenAt H' p l ns kk r ∧ kk ≤ 2 * k) (EvPs.cons stb_is evp_c EvPs.nil) (by decide)
    (fun H' g => ⟨none, none, none, none, none, none, none, rfl, 0, 0, hP0.but (grow_but g) (g _ _ hP0.pen) (by decide), by omega⟩) (fun k σ H1 hk pv D nx => ?_) (fun σ H' _ => rfl)
  obtain ⟨y2, y3, y4, y5, y6, y7, y8, rfl, kk, r, hP1, hkk⟩ := pv
  refine sq_par ⟨_, rfl, p, l, ns, kk, r, rfl, hP1, by omega, fun one d1 k1 r1' H2 b1 P2 l1 m1 => ?_⟩
  refine ⟨_, rfl, p, l, ns, k1, r1', rfl, P2, by omega, fun two d2 k2 r2' H3 b2 P3 l2 m2 => ?_⟩
  have m1' : VM p H3 one d1 := m1.but b2
  have e1 := m1.mem
  have e2 := m2.mem
  refine ⟨one, two, rfl, ?_⟩
  show tSeq _ _ D [some (.ref a), some (.ref p), some (.int k), some one, some two, y5, y6, y7, y8] H3
  refine sq_set (evp_made rfl rfl) fun vF H4 g4 pF => ?_
  have r1 : ∀ H', Grow H3 H' → RD H' one d1 := fun H' g => (m1'.but (grow_but g)).rd
  have r2 : ∀ H', Grow H3 H' → RD H' two d2 := fun H' g => (m2.but (grow_but g)).rd
  have mem13 : ∀ d ∈ List.replicate 13 d1 ++ [d2], d ∈ menu := fun d hd => by
    rcases List.mem_append.mp hd with z | z
    · rw [(List.mem_replicate.mp z).2]
      exact e1
    · rw [List.mem_singleton.mp z]
      exact e2
  have mem4 : ∀ d ∈ [d1, d2, d1, d2], d ∈ menu := fun d hd => by
    simp only [List.mem_cons, List.mem_nil_iff, or_false] at hd
    rcases hd with z | z | z | z <;> rw [z] <;> assumption
  have mem7 : ∀ d ∈ List.replicate 7 d1, d ∈ menu := fun d hd => by
    rw [(List.mem_replicate.mp hd).2]
    exact e1
  refine sq_no (ne_repr (sh_list mem13 (by simp)) (EvP.impG (fun u H' g h => sh_lst (RelA.app (Qs := [IsP two]) (es := [d2]) (rel_rep (r1 H' (g4.tr g)) 13) ⟨is_rd (r2 H' (g4.tr g)), trivial⟩) h) (evp_fields rfl pF))
    (EvP.impG (fun u H' g h => sh_lst (Ps := List.replicate 13 (IsP one) ++ [IsP two]) (RelA.app (Qs := [IsP two]) (es := [d2]) (rel_rep (r1 H' (g4.tr g)) 13) ⟨is_rd (r2 H' (g4.tr g)), trivial⟩) h)
      (evp_catN (Nat.le_of_ble_eq_true rfl) (evp_rep (by decide) (by decide) (Nat.le_of_ble_eq_true rfl) (evp_lst (Nat.le_of_ble_eq_true rfl) (EvPs.cons stb_is (evp_var (P := IsP one) rfl rfl stb_is) EvPs.nil) ⟨stb_is, trivial⟩) ⟨stb_is, trivial⟩) (evp_lst (Nat.le_of_ble_eq_true rfl) (EvPs.cons stb_is (evp_var (P := IsP two) rfl rfl stb_is) EvPs.nil) ⟨stb_is, trivial⟩) (stb_isrep 13) ⟨stb_is, trivial⟩))) fun H5 g5 => ?_
  have pF5 := stb_lst (stb19 C one two) _ _ _ g5 pF
  refine sq_for (n := 19) (fun k' σ H' => ∃ z6 : Option V, σ = [some (.ref a), some (.ref p), some (.int k), some one, some two, some vF, z6, y7, y8] ∧ Grow H5 H')
    (EvPs.cons stb_is (fun H1 g Q q => by
      obtain ⟨b, xs, rfl, hb, ab⟩ := stb_lst (stb19 C one two) _ _ _ g pF5
      have len : xs.length = 19 := ab.len
      refine ⟨_, rfl, b, xs, rfl, .inl (SqL.of hb), ?_⟩
      exact q _ H1 grow_rfl (by rw [len]; rfl)) EvPs.nil) (by decide) (fun H' g => ⟨y6, rfl, g⟩) (fun j σ H6 hj pv D' nx' => ?_) (fun σ H6 pv => ?_)
  · obtain ⟨z6, rfl, g6⟩ := pv
    have pF6 := stb_lst (stb19 C one two) _ _ _ g6 pF5
    show tSeq _ _ D' [some (.ref a), some (.ref p), some (.int k), some one, some two, some vF, some (.int j), y7, y8] H6
    refine sq_no (ne_data (xs := [V.int j]) (ds := [.int j]) (fun _ => .cons (.int _) .nil) (shInts (ns := [(j : Int)])) (evp_classes hj (evp_at rfl rfl hj pF6)) (evp_lst (Nat.le_of_ble_eq_true rfl) (EvPs.cons stb_is (evp_var (P := IsP _) rfl rfl stb_is) EvPs.nil) ⟨stb_is, trivial⟩)) fun H7 g7 => ?_
    refine ls_no (ne_data (fun _ => dp_bools _) (by rfl) (evp_above hj (evp_at rfl rfl hj (stb_lst (stb19 C one two) _ _ _ g7 pF6))) (evp_side rfl)) fun H8 g8 => ?_
    exact nx' _ _ ⟨_, rfl, (g6.tr g7).tr g8⟩
  obtain ⟨z6, rfl, g6⟩ := pv
  have GG6 : Grow H3 H6 := (g4.tr g5).tr g6
  refine sq_set (evp_e2k (evp_var (P := IsP two) rfl rfl stb_is) (evp_var (P := IsP one) rfl rfl stb_is)) fun vT H8 g8 pT => ?_
  refine sq_set (evp_lstN (Nat.le_of_ble_eq_true rfl) (EvPs.cons stb_is (evp_ef (evp_var rfl pT stb_er) X.fl lk_l) (EvPs.cons stb_is (evp_ef (evp_var rfl pT stb_er) X.fw lk_w) (EvPs.cons stb_is (evp_ef (evp_e1 (evp_var (P := IsP one) rfl rfl stb_is)) X.e2.ef rfl) (EvPs.cons stb_is (evp_ef (evp_e1 (evp_var (P := IsP two) rfl rfl stb_is)) X.e17.ef rfl) EvPs.nil)))) ⟨stb_is, stb_is, stb_is, stb_is, trivial⟩) fun v8 H9 g9 p9 => ?_
  have GG9 : Grow H3 H9 := (GG6.tr g8).tr g9
  refine sq_no (evb_or (ne_repr (sh_list mem4 (by simp)) (EvP.impG (fun u H' g h => sh_lst (Ps := [IsP one, IsP two, IsP one, IsP two]) ⟨is_rd (r1 H' (GG9.tr g)), ⟨is_rd (r2 H' (GG9.tr g)), ⟨is_rd (r1 H' (GG9.tr g)), ⟨is_rd (r2 H' (GG9.tr g)), trivial⟩⟩⟩⟩ h) (evp_var rfl p9 (stb_lstN ⟨stb_is, stb_is, stb_is, stb_is, trivial⟩))) (EvP.impG (fun u H' g h => sh_lst (Ps := [IsP one, IsP two, IsP one, IsP two]) ⟨is_rd (r1 H' (GG9.tr g)), ⟨is_rd (r2 H' (GG9.tr g)), ⟨is_rd (r1 H' (GG9.tr g)), ⟨is_rd (r2 H' (GG9.tr g)), trivial⟩⟩⟩⟩ h) (evp_lstN (Nat.le_of_ble_eq_true rfl) (EvPs.cons stb_is (evp_var (P := IsP one) rfl rfl stb_is) (EvPs.cons stb_is (evp_var (P := IsP two) rfl rfl stb_is) (EvPs.cons stb_is (evp_var (P := IsP one) rfl rfl stb_is) (EvPs.cons stb_is (evp_var (P := IsP two) rfl rfl stb_is) EvPs.nil)))) ⟨stb_is, stb_is, stb_is, stb_is, trivial⟩))) (ne_repr (sh_one e1) (EvP.impG (fun u H' g h => is_rd (r1 H' (GG9.tr g)) u h) (evp_ef (evp_e1 (evp_var (P := IsP one) rfl rfl stb_is)) X.e9.ef rfl)) (EvP.impG (fun u H' g h => is_rd (r1 H' (GG9.tr g)) u h) (evp_var (P := IsP one) rfl rfl stb_is)))) fun H10 g10 => ?_
  have GG10 : Grow H3 H10 := GG9.tr g10
  refine sq_no (evb_or (ne_repr (sh_one e2) (EvP.impG (fun u H' g h => is_rd (r2 H' (GG10.tr g)) u h) (evp_ef (evp_e1 (evp_var (P := IsP two) rfl rfl stb_is)) X.e11.ef rfl)) (EvP.impG (fun u H' g h => is_rd (r2 H' (GG10.tr g)) u h) (evp_var (P := IsP two) rfl rfl stb_is))) (ne_repr (sh_one e1) (EvP.impG (fun u H' g h => is_rd (r1 H' (GG10.tr g)) u h) (evp_ef (evp_e1 (evp_var (P := IsP one) rfl rfl stb_is)) X.e15.ef rfl)) (EvP.impG (fun u H' g h => is_rd (r1 H' (GG10.tr g)) u h) (evp_var (P := IsP one) rfl rfl stb_is)))) fun H11 g11 => ?_
  have GG11 : Grow H3 H11 := GG10.tr g11
  refine sq_set (evp_lst (Nat.le_of_ble_eq_true rfl) (EvPs.cons stb_is (evp_ef (evp_e1 (evp_var (P := IsP one) rfl rfl stb_is)) X.e3.ef rfl) (EvPs.cons stb_is (evp_ef (evp_e1 (evp_var (P := IsP one) rfl rfl stb_is)) X.e4.ef rfl) (EvPs.cons stb_is (evp_ef (evp_e1 (evp_var (P := IsP one) rfl rfl stb_is)) X.e10.ef rfl) EvPs.nil))) ⟨stb_is, stb_is, stb_is, trivial⟩) fun v9 H12 g12 p12 => ?_
  refine sq_set (evp_cat (Nat.le_of_ble_eq_true rfl) (evp_var rfl p12 (stb_lst ⟨stb_is, stb_is, stb_is, trivial⟩)) (evp_lst (Nat.le_of_ble_eq_true rfl) (EvPs.cons stb_is (evp_ef (evp_e1 (evp_var (P := IsP one) rfl rfl stb_is)) X.e6.ef rfl) (EvPs.cons stb_is (evp_ef (evp_e1 (evp_var (P := IsP one) rfl rfl stb_is)) X.e7.ef rfl) EvPs.nil)) ⟨stb_is, stb_is, trivial⟩) ⟨stb_is, stb_is, stb_is, trivial⟩ ⟨stb_is, stb_is, trivial⟩) fun v10 H13 g13 p13 => ?_
  have GG13 : Grow H3 H13 := (GG11.tr g12).tr g13
  refine ls_no (ne_repr (sh_list mem7 (by simp)) (EvP.impG (fun u H' g h => sh_lst (Ps := [IsP one, IsP one, IsP one, IsP one, IsP one, IsP one, IsP one]) ⟨is_rd (r1 H' (GG13.tr g)), ⟨is_rd (r1 H' (GG13.tr g)), ⟨is_rd (r1 H' (GG13.tr g)), ⟨is_rd (r1 H' (GG13.tr g)), ⟨is_rd (r1 H' (GG13.tr g)), ⟨is_rd (r1 H' (GG13.tr g)), ⟨is_rd (r1 H' (GG13.tr g)), trivial⟩⟩⟩⟩⟩⟩⟩ h) (evp_catN (Nat.le_of_ble_eq_true rfl) (evp_var rfl p13 (stb_lst ⟨stb_is, stb_is, stb_is, stb_is, stb_is, trivial⟩)) (evp_lst (Nat.le_of_ble_eq_true rfl) (EvPs.cons stb_is (evp_ef (evp_e1 (evp_var (P := IsP one) rfl rfl stb_is)) X.e8.ef rfl) (EvPs.cons stb_is (evp_ef (evp_e1 (evp_var (P := IsP one) rfl rfl stb_is)) X.e18.ef rfl) EvPs.nil)) ⟨stb_is, stb_is, trivial⟩) ⟨stb_is, stb_is, stb_is, stb_is, stb_is, trivial⟩ ⟨stb_is, stb_is, trivial⟩)) (EvP.impG (fun u H' g h => sh_lst (Ps := [IsP one, IsP one, IsP one, IsP one, IsP one, IsP one, IsP one]) ⟨is_rd (r1 H' (GG13.tr g)), ⟨is_rd (r1 H' (GG13.tr g)), ⟨is_rd (r1 H' (GG13.tr g)), ⟨is_rd (r1 H' (GG13.tr g)), ⟨is_rd (r1 H' (GG13.tr g)), ⟨is_rd (r1 H' (GG13.tr g)), ⟨is_rd (r1 H' (GG13.tr g)), trivial⟩⟩⟩⟩⟩⟩⟩ h) (evp_repN (by decide) (by decide) (Nat.le_of_ble_eq_true rfl) (evp_lst (Nat.le_of_ble_eq_true rfl) (EvPs.cons stb_is (evp_var (P := IsP one) rfl rfl stb_is) EvPs.nil) ⟨stb_is, trivial⟩) ⟨stb_is, trivial⟩))) fun H14 g14 => ?_
  have GG14 : Grow H3 H14 := GG13.tr g14
  exact nx _ _ ⟨_, _, _, _, _, _, _, rfl, k2, r2', P3.but (grow_but GG14) (GG14 _ _ P3.pen) P3.k0, by omega⟩
end
end B1
set_option maxRecDepth 100000
set_option maxHeartbeats 8000000
namespace B1
open PySem PySem.Spec PyProof.Rows L2 LP XO
/-! ### the end: what the top has written, looked at in one go -/
def eiB (K : PySem.W.Frag) (D : Addr) : Bool :=
  decide (PySem.W.findIn K (.ref D) "__getattribute__" = some (some (.builtin "BaseException.__getattribute__"))) && (decide (PySem.W.findIn K (.ref D) "__getattr__" = some none) &&
  (decide (PySem.W.subIn K (.ref D) (.type "BaseException") = some true) && (PySem.W.hasDictIn K D && (decide (PySem.W.findIn K (.ref D) "__class__" = some (some (.builtin "object.__class__"))) &&
  (decide (PySem.W.specialIn K (.builtin "object.__class__") "__get__" = some (some (.builtin "getset_descriptor.__get__"))) && (decide (PySem.W.takesIn K (.builtin "object.__class__") = some true) &&
  decide (PySem.W.mroIn K D (.type "object") = some true)))))))
theorem ei_of {K : PySem.W.Frag} {D : Addr} (h : eiB K D = true) : EI K D := by
  unfold eiB at h
  simp only [Bool.and_eq_true, decide_eq_true_eq] at h
  obtain ⟨h1, h2, h3, h4, h5, h6, h7, h8⟩ := h
  exact ⟨h1, h2, h3, h4, h5, h6, h7, h8⟩
def e1B (K : PySem.W.Frag) (n : Str) (D f : Addr) (tl : List Value) (nw : String) : Bool :=
  PySem.W.excInitIn K D tl nw && (PySem.W.excOver K D tl && (decide (PySem.W.findIn K (.ref D) "__setattr__" = some (some (.builtin "object.__setattr__"))) && (decide (PySem.W.takerIn K D n = some none) &&
  (decide (PySem.W.findIn K (.ref D) n = some none) && (decide (PySem.W.findIn K (.ref D) "__init__" = some (some (.ref f))) && (decide (PySem.W.typeIn K (.ref f) = some (.type "function")) && PySem.W.keepIn K (.ref D)))))))
theorem e1_of {K : PySem.W.Frag} {mg : Str → Option Value} {x n : Str} {D f : Addr} {tl : List Value} {nw : String} (h : e1B K n D f tl nw = true) (ei : EI K D) (g : mg x = some (.ref D)) (nm : Nm n)
    (fn : ∃ (qn : Str) (oc : Value) (od : Option Addr) (doc pm : Value) (an : Option Addr) (cdv ct : Value) (osl : Array (Option Value)) (p1 p2 q1 q2 q3 q4 : Pos),
      K.lookup f = some ⟨oc, od, .func (PySem.W.fnOf "__init__" qn (a1 n p1 p2) (b1 n q1 q2 q3 q4) (s1 n) .none .none doc pm an cdv ct), osl⟩ ∧ PySem.W.codeIn K cdv qn = true) : E1 K mg x n D f tl nw := by
  unfold e1B at h
  simp only [Bool.and_eq_true, decide_eq_true_eq] at h
  obtain ⟨h1, h2, h3, h4, h5, h6, h7, h8⟩ := h
  exact ⟨g, nm, h1, h2, ei.hd, h3, ei.ga, ei.gg, h4, h5, h6, h7, h8, ei.ex, fn⟩
def kitB (K : PySem.W.Frag) (C : Nat → Addr) (CF CM : Addr) : Bool := (List.range 19).all fun i => (List.range 19).all (fun j => decide (PySem.W.kitOne K (.ref (C i)) (.ref (C j)) = some (decide (i = j)))) &&
  (decide (PySem.W.kitOne K (.ref (C i)) (.ref CF) = some (decide (i < 17))) && (decide (PySem.W.kitOne K (.ref (C i)) (.ref CM) = some (decide (16 < i))) &&
  (decide (PySem.W.kitOne K (.ref (C i)) (.type "ValueError") = some (decide (i < 17))) && (decide (PySem.W.kitOne K (.ref (C i)) (.type "LookupError") = some (decide (16 < i))) && eiB K (C i)))))
theorem kit_of' {K : PySem.W.Frag} {C : Nat → Addr} {CF CM : Addr} (h : kitB K C CF CM = true) (i : Nat) (hi : i < 19) : (∀ j, j < 19 → PySem.W.kitOne K (.ref (C i)) (.ref (C j)) = some (decide (i = j))) ∧ PySem.W.kitOne K (.ref (C i)) (.ref CF) = some (decide (i < 17)) ∧
    PySem.W.kitOne K (.ref (C i)) (.ref CM) = some (decide (16 < i)) ∧ PySem.W.kitOne K (.ref (C i)) (.type "ValueError") = some (decide (i < 17)) ∧ PySem.W.kitOne K (.ref (C i)) (.type "LookupError") = some (decide (16 < i)) ∧ EI K (C i) := by
  unfold kitB at h
  have z := List.all_eq_true.mp h i (List.mem_range.mpr hi)
  simp only [Bool.and_eq_true, decide_eq_true_eq] at z
  obtain ⟨z1, z2, z3, z4, z5, z6⟩ := z
  exact ⟨fun j hj => of_decide_eq_true (List.all_eq_true.mp z1 j (List.mem_range.mpr hj)), z2, z3, z4, z5, ei_of z6⟩
/-- the law's call, from its caller -/
def LawRun (P : Program) (w : World) (K : PySem.W.Frag) (mg : Str → Option Value) (fa : Addr) : Prop := ∀ (base : Heap) (s : Shared) (a : Addr) (ns : List Int) (H : Hp), Env0 P w K mg base callerA [] s H → SqL K H a (ns.map V.int) → ns.length ≤ 63 →
  codeAny (model P w) callerA (.call (.ref fa) ⟨[.ref a], []⟩) (CR CX0 [] P w H s (fun v _ => v = .bl true) fun _ _ _ => False) s
theorem walk {l : PySem.W.OpenLaw} {q : Program} {loose : List Str} {XP : (Str → Option Value) → Heap → Prop} {YP : World → Heap → Prop} {d : DefRec} {K : Params → PySem.W.Frag} (hn : l.most = some 63) (hdf : d.params.defaults = []) (hY : ∀ (w : World) (h : Heap), YP w h → (K w.params).In h)
    (F : ∀ (w : World) (mg : Str → Option Value) (fa : Addr) (h : Heap), (K w.params).In h → h.Ns mainGlobals mg → mg d.name = some (.ref fa) → LawRun l.prog w (K w.params) mg fa) :
    PySem.W.WalkO q loose XP YP l.row.toRowW d [] (fun f vs => PySem.call f vs) := by
  refine Att.attach_call hn hdf fun w s₀ s₁ mg mb fa o pm cd doc a vs ns G Y ho hd hcd hmg hobj hints hlen hg => ?_
  have KX := hY w _ Y
  exact law_at KX G.T.g G.T.b G.T.builtins G.T.nolimit hg hobj hints (Nat.le_trans hlen (by decide)) fun base H _ _ e0 _ sq => F w mg fa _ KX G.T.g hmg base s₁ a ns H e0 sq hlen

theorem mk {P : Program} {w : World} {K : PySem.W.Frag} {h : Heap} {mg : Str → Option Value} {fa : Addr} (X : K.In h) (G : h.Ns mainGlobals mg) (hfa : mg "law" = some (.ref fa))
    {c0 c1 c2 c3 c4 c5 c6 c7 c8 c9 c10 c11 c12 c13 c14 c15 c16 c17 c18 CF CM : Addr}
    {f2 f3 f4 f6 f7 f8 f9 f10 f11 f14 f15 f17 f18 : Addr}
    {oc2 doc2 pm2 cd2 ct2 : Value} {od2 an2 : Option Addr} {sl2 : Array (Option Value)} {qn2 : Str}
    {p2a p2b p2c p2d p2e p2f : Pos}
    {oc3 doc3 pm3 cd3 ct3 : Value} {od3 an3 : Option Addr} {sl3 : Array (Option Value)} {qn3 : Str}
    {p3a p3b p3c p3d p3e p3f : Pos}
    {oc4 doc4 pm4 cd4 ct4 : Value} {od4 an4 : Option Addr} {sl4 : Array (Option Value)} {qn4 : Str}
    {p4a p4b p4c p4d p4e p4f : Pos}
    {oc6 doc6 pm6 cd6 ct6 : Value} {od6 an6 : Option Addr} {sl6 : Array (Option Value)} {qn6 : Str}
    {p6a p6b p6c p6d p6e p6f : Pos}
    {oc7 doc7 pm7 cd7 ct7 : Value} {od7 an7 : Option Addr} {sl7 : Array (Option Value)} {qn7 : Str}
    {p7a p7b p7c p7d p7e p7f : Pos}
    {oc8 doc8 pm8 cd8 ct8 : Value} {od8 an8 : Option Addr} {sl8 : Array (Option Value)} {qn8 : Str}
    {p8a p8b p8c p8d p8e p8f : Pos}
    {oc9 doc9 pm9 cd9 ct9 : Value} {od9 an9 : Option Addr} {sl9 : Array (Option Value)} {qn9 : Str}
    {p9a p9b p9c p9d p9e p9f : Pos}
    {oc10 doc10 pm10 cd10 ct10 : Value} {od10 an10 : Option Addr} {sl10 : Array (Option Value)} {qn10 : Str}
    {p10a p10b p10c p10d p10e p10f : Pos}
    {oc11 doc11 pm11 cd11 ct11 : Value} {od11 an11 : Option Addr} {sl11 : Array (Option Value)} {qn11 : Str}
    {p11a p11b p11c p11d p11e p11f : Pos}
    {oc14 doc14 pm14 cd14 ct14 : Value} {od14 an14 : Option Addr} {sl14 : Array (Option Value)} {qn14 : Str}
    {p14a p14b p14c p14d p14e p14f p14g p14h p14i p14j p14k : Pos}
    {oc15 doc15 pm15 cd15 ct15 : Value} {od15 an15 : Option Addr} {sl15 : Array (Option Value)} {qn15 : Str}
    {p15a p15b p15c p15d p15e p15f : Pos}
    {oc17 doc17 pm17 cd17 ct17 : Value} {od17 an17 : Option Addr} {sl17 : Array (Option Value)} {qn17 : Str}
    {p17a p17b p17c p17d p17e p17f : Pos}
    {oc18 doc18 pm18 cd18 ct18 : Value} {od18 an18 : Option Addr} {sl18 : Array (Option Value)} {qn18 : Str}
    {p18a p18b p18c p18d p18e p18f : Pos}
    {F0 : Addr} {Oc0 Kv0 Do0 Pm0 Cd0 Ct0 : Value} {Od0 An0 : Option Addr} {Sl0 : Array (Option Value)}
    {F1 : Addr} {Oc1 Kv1 Do1 Pm1 Cd1 Ct1 : Value} {Od1 An1 : Option Addr} {Sl1 : Array (Option Value)}
    {F2 : Addr} {Oc2 Kv2 Do2 Pm2 Cd2 Ct2 : Value} {Od2 An2 : Option Addr} {Sl2 : Array (Option Value)}
    {F3 : Addr} {Oc3 Kv3 Do3 Pm3 Cd3 Ct3 : Value} {Od3 An3 : Option Addr} {Sl3 : Array (Option Value)}
    {F4 : Addr} {Oc4 Kv4 Do4 Pm4 Cd4 Ct4 : Value} {Od4 An4 : Option Addr} {Sl4 : Array (Option Value)}
    {F5 : Addr} {Oc5 Kv5 Do5 Pm5 Cd5 Ct5 : Value} {Od5 An5 : Option Addr} {Sl5 : Array (Option Value)}
    {F6 : Addr} {Oc6 Kv6 Do6 Pm6 Cd6 Ct6 : Value} {Od6 An6 : Option Addr} {Sl6 : Array (Option Value)}
    {F7 : Addr} {Oc7 Kv7 Do7 Pm7 Cd7 Ct7 : Value} {Od7 An7 : Option Addr} {Sl7 : Array (Option Value)}
    (g0 : PySem.W.nsIn K mainGlobals "InvalidRatio" = some (some (.ref c0)))
    (g1 : PySem.W.nsIn K mainGlobals "NoQuotient" = some (some (.ref c1)))
    (g2 : PySem.W.nsIn K mainGlobals "InvalidAxis" = some (some (.ref c2)))
    (g3 : PySem.W.nsIn K mainGlobals "InvalidSetting" = some (some (.ref c3)))
    (g4 : PySem.W.nsIn K mainGlobals "InvalidRoom" = some (some (.ref c4)))
    (g5 : PySem.W.nsIn K mainGlobals "InvalidTent" = some (some (.ref c5)))
    (g6 : PySem.W.nsIn K mainGlobals "InvalidRow" = some (some (.ref c6)))
    (g7 : PySem.W.nsIn K mainGlobals "InvalidLetter" = some (some (.ref c7)))
    (g8 : PySem.W.nsIn K mainGlobals "InvalidDesign" = some (some (.ref c8)))
    (g9 : PySem.W.nsIn K mainGlobals "Needed" = some (some (.ref c9)))
    (g10 : PySem.W.nsIn K mainGlobals "InvalidJoin" = some (some (.ref c10)))
    (g11 : PySem.W.nsIn K mainGlobals "InvalidMasters" = some (some (.ref c11)))
    (g12 : PySem.W.nsIn K mainGlobals "NotOneRoom" = some (some (.ref c12)))
    (g13 : PySem.W.nsIn K mainGlobals "InvalidChange" = some (some (.ref c13)))
    (g14 : PySem.W.nsIn K mainGlobals "InvalidText" = some (some (.ref c14)))
    (g15 : PySem.W.nsIn K mainGlobals "UnknownCommand" = some (some (.ref c15)))
    (g16 : PySem.W.nsIn K mainGlobals "NothingToUndo" = some (some (.ref c16)))
    (g17 : PySem.W.nsIn K mainGlobals "UnknownAxis" = some (some (.ref c17)))
    (g18 : PySem.W.nsIn K mainGlobals "UnknownLetter" = some (some (.ref c18)))
    (gF : PySem.W.nsIn K mainGlobals "FaceError" = some (some (.ref CF)))
    (gM : PySem.W.nsIn K mainGlobals "MissingError" = some (some (.ref CM)))
    (n2 : PySem.W.findIn K (.ref c2) "__init__" = some (some (.ref f2)))
    (n3 : PySem.W.findIn K (.ref c3) "__init__" = some (some (.ref f3)))
    (n4 : PySem.W.findIn K (.ref c4) "__init__" = some (some (.ref f4)))
    (n6 : PySem.W.findIn K (.ref c6) "__init__" = some (some (.ref f6)))
    (n7 : PySem.W.findIn K (.ref c7) "__init__" = some (some (.ref f7)))
    (n8 : PySem.W.findIn K (.ref c8) "__init__" = some (some (.ref f8)))
    (n9 : PySem.W.findIn K (.ref c9) "__init__" = some (some (.ref f9)))
    (n10 : PySem.W.findIn K (.ref c10) "__init__" = some (some (.ref f10)))
    (n11 : PySem.W.findIn K (.ref c11) "__init__" = some (some (.ref f11)))
    (n14 : PySem.W.findIn K (.ref c14) "__init__" = some (some (.ref f14)))
    (n15 : PySem.W.findIn K (.ref c15) "__init__" = some (some (.ref f15)))
    (n17 : PySem.W.findIn K (.ref c17) "__init__" = some (some (.ref f17)))
    (n18 : PySem.W.findIn K (.ref c18) "__init__" = some (some (.ref f18)))
    (l2 : K.lookup f2 = some ⟨oc2, od2, .func (PySem.W.fnOf "__init__" qn2 (a1 "reason" p2a p2b) (b1 "reason" p2c p2d p2e p2f) (s1 "reason") .none .none doc2 pm2 an2 cd2 ct2), sl2⟩)
    (q2 : PySem.W.codeIn K cd2 qn2 = true)
    (l3 : K.lookup f3 = some ⟨oc3, od3, .func (PySem.W.fnOf "__init__" qn3 (a1 "name" p3a p3b) (b1 "name" p3c p3d p3e p3f) (s1 "name") .none .none doc3 pm3 an3 cd3 ct3), sl3⟩)
    (q3 : PySem.W.codeIn K cd3 qn3 = true)
    (l4 : K.lookup f4 = some ⟨oc4, od4, .func (PySem.W.fnOf "__init__" qn4 (a1 "name" p4a p4b) (b1 "name" p4c p4d p4e p4f) (s1 "name") .none .none doc4 pm4 an4 cd4 ct4), sl4⟩)
    (q4 : PySem.W.codeIn K cd4 qn4 = true)
    (l6 : K.lookup f6 = some ⟨oc6, od6, .func (PySem.W.fnOf "__init__" qn6 (a1 "reason" p6a p6b) (b1 "reason" p6c p6d p6e p6f) (s1 "reason") .none .none doc6 pm6 an6 cd6 ct6), sl6⟩)
    (q6 : PySem.W.codeIn K cd6 qn6 = true)
    (l7 : K.lookup f7 = some ⟨oc7, od7, .func (PySem.W.fnOf "__init__" qn7 (a1 "reason" p7a p7b) (b1 "reason" p7c p7d p7e p7f) (s1 "reason") .none .none doc7 pm7 an7 cd7 ct7), sl7⟩)
    (q7 : PySem.W.codeIn K cd7 qn7 = true)
    (l8 : K.lookup f8 = some ⟨oc8, od8, .func (PySem.W.fnOf "__init__" qn8 (a1 "reason" p8a p8b) (b1 "reason" p8c p8d p8e p8f) (s1 "reason") .none .none doc8 pm8 an8 cd8 ct8), sl8⟩)
    (q8 : PySem.W.codeIn K cd8 qn8 = true)
    (l9 : K.lookup f9 = some ⟨oc9, od9, .func (PySem.W.fnOf "__init__" qn9 (a1 "name" p9a p9b) (b1 "name" p9c p9d p9e p9f) (s1 "name") .none .none doc9 pm9 an9 cd9 ct9), sl9⟩)
    (q9 : PySem.W.codeIn K cd9 qn9 = true)
    (l10 : K.lookup f10 = some ⟨oc10, od10, .func (PySem.W.fnOf "__init__" qn10 (a1 "name" p10a p10b) (b1 "name" p10c p10d p10e p10f) (s1 "name") .none .none doc10 pm10 an10 cd10 ct10), sl10⟩)
    (q10 : PySem.W.codeIn K cd10 qn10 = true)
    (l11 : K.lookup f11 = some ⟨oc11, od11, .func (PySem.W.fnOf "__init__" qn11 (a1 "index" p11a p11b) (b1 "index" p11c p11d p11e p11f) (s1 "index") .none .none doc11 pm11 an11 cd11 ct11), sl11⟩)
    (q11 : PySem.W.codeIn K cd11 qn11 = true)
    (l14 : K.lookup f14 = some ⟨oc14, od14, .func (PySem.W.fnOf "__init__" qn14 (a2 p14a p14b p14c) (b2 p14d p14e p14f p14g p14h p14i p14j p14k) s2 .none .none doc14 pm14 an14 cd14 ct14), sl14⟩)
    (q14 : PySem.W.codeIn K cd14 qn14 = true)
    (l15 : K.lookup f15 = some ⟨oc15, od15, .func (PySem.W.fnOf "__init__" qn15 (a1 "word" p15a p15b) (b1 "word" p15c p15d p15e p15f) (s1 "word") .none .none doc15 pm15 an15 cd15 ct15), sl15⟩)
    (q15 : PySem.W.codeIn K cd15 qn15 = true)
    (l17 : K.lookup f17 = some ⟨oc17, od17, .func (PySem.W.fnOf "__init__" qn17 (a1 "name" p17a p17b) (b1 "name" p17c p17d p17e p17f) (s1 "name") .none .none doc17 pm17 an17 cd17 ct17), sl17⟩)
    (q17 : PySem.W.codeIn K cd17 qn17 = true)
    (l18 : K.lookup f18 = some ⟨oc18, od18, .func (PySem.W.fnOf "__init__" qn18 (a1 "name" p18a p18b) (b1 "name" p18c p18d p18e p18f) (s1 "name") .none .none doc18 pm18 an18 cd18 ct18), sl18⟩)
    (q18 : PySem.W.codeIn K cd18 qn18 = true)
    (A0 : PySem.W.nsIn K mainGlobals "_law_pen" = some (some (.ref F0)))
    (L0 : K.lookup F0 = some ⟨Oc0, Od0, .func (PySem.W.fnOf "_law_pen" "_law_pen" (defArgs sPen) (defBody sPen) (defScope sPen) .none Kv0 Do0 Pm0 An0 Cd0 Ct0), Sl0⟩)
    (Q0 : PySem.W.codeIn K Cd0 "_law_pen" = true)
    (K0 : PySem.W.keepIn K (.ref F0) = true)
    (A1 : PySem.W.nsIn K mainGlobals "_law_draw" = some (some (.ref F1)))
    (L1 : K.lookup F1 = some ⟨Oc1, Od1, .func (PySem.W.fnOf "_law_draw" "_law_draw" (defArgs sDraw) (defBody sDraw) (defScope sDraw) .none Kv1 Do1 Pm1 An1 Cd1 Ct1), Sl1⟩)
    (Q1 : PySem.W.codeIn K Cd1 "_law_draw" = true)
    (K1 : PySem.W.keepIn K (.ref F1) = true)
    (A2 : PySem.W.nsIn K mainGlobals "_law_value" = some (some (.ref F2)))
    (L2 : K.lookup F2 = some ⟨Oc2, Od2, .func (PySem.W.fnOf "_law_value" "_law_value" (defArgs sValue) (defBody sValue) (defScope sValue) .none Kv2 Do2 Pm2 An2 Cd2 Ct2), Sl2⟩)
    (Q2 : PySem.W.codeIn K Cd2 "_law_value" = true)
    (K2 : PySem.W.keepIn K (.ref F2) = true)
    (A3 : PySem.W.nsIn K mainGlobals "_law_above" = some (some (.ref F3)))
    (L3 : K.lookup F3 = some ⟨Oc3, Od3, .func (PySem.W.fnOf "_law_above" "_law_above" (defArgs sAbove) (defBody sAbove) (defScope sAbove) .none Kv3 Do3 Pm3 An3 Cd3 Ct3), Sl3⟩)
    (Q3 : PySem.W.codeIn K Cd3 "_law_above" = true)
    (K3 : PySem.W.keepIn K (.ref F3) = true)
    (A4 : PySem.W.nsIn K mainGlobals "_law_classes" = some (some (.ref F4)))
    (L4 : K.lookup F4 = some ⟨Oc4, Od4, .func (PySem.W.fnOf "_law_classes" "_law_classes" (defArgs sClasses) (defBody sClasses) (defScope sClasses) .none Kv4 Do4 Pm4 An4 Cd4 Ct4), Sl4⟩)
    (Q4 : PySem.W.codeIn K Cd4 "_law_classes" = true)
    (K4 : PySem.W.keepIn K (.ref F4) = true)
    (A5 : PySem.W.nsIn K mainGlobals "_law_made" = some (some (.ref F5)))
    (L5 : K.lookup F5 = some ⟨Oc5, Od5, .func (PySem.W.fnOf "_law_made" "_law_made" (defArgs sMade) (defBody sMade) (defScope sMade) .none Kv5 Do5 Pm5 An5 Cd5 Ct5), Sl5⟩)
    (Q5 : PySem.W.codeIn K Cd5 "_law_made" = true)
    (K5 : PySem.W.keepIn K (.ref F5) = true)
    (A6 : PySem.W.nsIn K mainGlobals "_law_fields" = some (some (.ref F6)))
    (L6 : K.lookup F6 = some ⟨Oc6, Od6, .func (PySem.W.fnOf "_law_fields" "_law_fields" (defArgs sFields) (defBody sFields) (defScope sFields) .none Kv6 Do6 Pm6 An6 Cd6 Ct6), Sl6⟩)
    (Q6 : PySem.W.codeIn K Cd6 "_law_fields" = true)
    (K6 : PySem.W.keepIn K (.ref F6) = true)
    (A7 : PySem.W.nsIn K mainGlobals "law" = some (some (.ref F7)))
    (L7 : K.lookup F7 = some ⟨Oc7, Od7, .func (PySem.W.fnOf "law" "law" (defArgs sLaw) (defBody sLaw) (defScope sLaw) .none Kv7 Do7 Pm7 An7 Cd7 Ct7), Sl7⟩)
    (Q7 : PySem.W.codeIn K Cd7 "law" = true)
    (K7 : PySem.W.keepIn K (.ref F7) = true)
    (z_list : PySem.W.nsIn K mainGlobals "list" = some none)
    (z_int : PySem.W.nsIn K mainGlobals "int" = some none)
    (z_len : PySem.W.nsIn K mainGlobals "len" = some none)
    (z_abs : PySem.W.nsIn K mainGlobals "abs" = some none)
    (z_range : PySem.W.nsIn K mainGlobals "range" = some none)
    (z_isinstance : PySem.W.nsIn K mainGlobals "isinstance" = some none)
    (z_repr : PySem.W.nsIn K mainGlobals "repr" = some none)
    (z_ValueError : PySem.W.nsIn K mainGlobals "ValueError" = some none)
    (z_LookupError : PySem.W.nsIn K mainGlobals "LookupError" = some none)
    (kit : kitB K (fun i => [c0, c1, c2, c3, c4, c5, c6, c7, c8, c9, c10, c11, c12, c13, c14, c15, c16, c17, c18].getD i 0) CF CM = true)
    (e2 : e1B K "reason" c2 f2 [.type "ValueError", .type "Exception", .type "BaseException", .type "object"] "ValueError.__new__" = true)
    (e3 : e1B K "name" c3 f3 [.type "ValueError", .type "Exception", .type "BaseException", .type "object"] "ValueError.__new__" = true)
    (e4 : e1B K "name" c4 f4 [.type "ValueError", .type "Exception", .type "BaseException", .type "object"] "ValueError.__new__" = true)
    (e6 : e1B K "reason" c6 f6 [.type "ValueError", .type "Exception", .type "BaseException", .type "object"] "ValueError.__new__" = true)
    (e7 : e1B K "reason" c7 f7 [.type "ValueError", .type "Exception", .type "BaseException", .type "object"] "ValueError.__new__" = true)
    (e8 : e1B K "reason" c8 f8 [.type "ValueError", .type "Exception", .type "BaseException", .type "object"] "ValueError.__new__" = true)
    (e9 : e1B K "name" c9 f9 [.type "ValueError", .type "Exception", .type "BaseException", .type "object"] "ValueError.__new__" = true)
    (e10 : e1B K "name" c10 f10 [.type "ValueError", .type "Exception", .type "BaseException", .type "object"] "ValueError.__new__" = true)
    (e11 : e1B K "index" c11 f11 [.type "ValueError", .type "Exception", .type "BaseException", .type "object"] "ValueError.__new__" = true)
    (e15 : e1B K "word" c15 f15 [.type "ValueError", .type "Exception", .type "BaseException", .type "object"] "ValueError.__new__" = true)
    (e17 : e1B K "name" c17 f17 [.type "LookupError", .type "Exception", .type "BaseException", .type "object"] "LookupError.__new__" = true)
    (e18 : e1B K "name" c18 f18 [.type "LookupError", .type "Exception", .type "BaseException", .type "object"] "LookupError.__new__" = true)
    (e14 : e1B K "line" c14 f14 [.type "ValueError", .type "Exception", .type "BaseException", .type "object"] "ValueError.__new__" = true)
    (e14w : e1B K "word" c14 f14 [.type "ValueError", .type "Exception", .type "BaseException", .type "object"] "ValueError.__new__" = true)
    (x0 : PySem.W.excIn K c0 [.type "ValueError", .type "Exception", .type "BaseException", .type "object"] "ValueError.__new__" = true)
    (k0 : PySem.W.keepIn K (.ref c0) = true)
    (x1 : PySem.W.excIn K c1 [.type "ValueError", .type "Exception", .type "BaseException", .type "object"] "ValueError.__new__" = true)
    (k1 : PySem.W.keepIn K (.ref c1) = true)
    (x5 : PySem.W.excIn K c5 [.type "ValueError", .type "Exception", .type "BaseException", .type "object"] "ValueError.__new__" = true)
    (k5 : PySem.W.keepIn K (.ref c5) = true)
    (x12 : PySem.W.excIn K c12 [.type "ValueError", .type "Exception", .type "BaseException", .type "object"] "ValueError.__new__" = true)
    (k12 : PySem.W.keepIn K (.ref c12) = true)
    (x13 : PySem.W.excIn K c13 [.type "ValueError", .type "Exception", .type "BaseException", .type "object"] "ValueError.__new__" = true)
    (k13 : PySem.W.keepIn K (.ref c13) = true)
    (x16 : PySem.W.excIn K c16 [.type "ValueError", .type "Exception", .type "BaseException", .type "object"] "ValueError.__new__" = true)
    (k16 : PySem.W.keepIn K (.ref c16) = true) : LawRun P w K mg fa := by
  have e := hfa.symm.trans (PySem.W.mg_of X G A7)
  cases e
  have T : Bl2 mg := { list := PySem.W.mg_none_of X G z_list, int := PySem.W.mg_none_of X G z_int, len := PySem.W.mg_none_of X G z_len, abs := PySem.W.mg_none_of X G z_abs, range := PySem.W.mg_none_of X G z_range, isi := PySem.W.mg_none_of X G z_isinstance, repr := PySem.W.mg_none_of X G z_repr, ve := PySem.W.mg_none_of X G z_ValueError, le := PySem.W.mg_none_of X G z_LookupError }
  have kk := kit_of' kit
  have ei : ∀ i, i < 19 → EI K ((fun i => [c0, c1, c2, c3, c4, c5, c6, c7, c8, c9, c10, c11, c12, c13, c14, c15, c16, c17, c18].getD i 0) i) := fun i hi => (kk i hi).2.2.2.2.2
  have Z2 : E1 K mg "InvalidAxis" "reason" c2 f2 [.type "ValueError", .type "Exception", .type "BaseException", .type "object"] "ValueError.__new__" := e1_of e2 (ei 2 (by decide)) (PySem.W.mg_of X G g2) (.inl rfl) ⟨_, _, _, _, _, _, _, _, _, _, _, _, _, _, _, l2, q2⟩
  have Z3 : E1 K mg "InvalidSetting" "name" c3 f3 [.type "ValueError", .type "Exception", .type "BaseException", .type "object"] "ValueError.__new__" := e1_of e3 (ei 3 (by decide)) (PySem.W.mg_of X G g3) (.inr (.inl rfl)) ⟨_, _, _, _, _, _, _, _, _, _, _, _, _, _, _, l3, q3⟩
  have Z4 : E1 K mg "InvalidRoom" "name" c4 f4 [.type "ValueError", .type "Exception", .type "BaseException", .type "object"] "ValueError.__new__" := e1_of e4 (ei 4 (by decide)) (PySem.W.mg_of X G g4) (.inr (.inl rfl)) ⟨_, _, _, _, _, _, _, _, _, _, _, _, _, _, _, l4, q4⟩
  have Z6 : E1 K mg "InvalidRow" "reason" c6 f6 [.type "ValueError", .type "Exception", .type "BaseException", .type "object"] "ValueError.__new__" := e1_of e6 (ei 6 (by decide)) (PySem.W.mg_of X G g6) (.inl rfl) ⟨_, _, _, _, _, _, _, _, _, _, _, _, _, _, _, l6, q6⟩
  have Z7 : E1 K mg "InvalidLetter" "reason" c7 f7 [.type "ValueError", .type "Exception", .type "BaseException", .type "object"] "ValueError.__new__" := e1_of e7 (ei 7 (by decide)) (PySem.W.mg_of X G g7) (.inl rfl) ⟨_, _, _, _, _, _, _, _, _, _, _, _, _, _, _, l7, q7⟩
  have Z8 : E1 K mg "InvalidDesign" "reason" c8 f8 [.type "ValueError", .type "Exception", .type "BaseException", .type "object"] "ValueError.__new__" := e1_of e8 (ei 8 (by decide)) (PySem.W.mg_of X G g8) (.inl rfl) ⟨_, _, _, _, _, _, _, _, _, _, _, _, _, _, _, l8, q8⟩
  have Z9 : E1 K mg "Needed" "name" c9 f9 [.type "ValueError", .type "Exception", .type "BaseException", .type "object"] "ValueError.__new__" := e1_of e9 (ei 9 (by decide)) (PySem.W.mg_of X G g9) (.inr (.inl rfl)) ⟨_, _, _, _, _, _, _, _, _, _, _, _, _, _, _, l9, q9⟩
  have Z10 : E1 K mg "InvalidJoin" "name" c10 f10 [.type "ValueError", .type "Exception", .type "BaseException", .type "object"] "ValueError.__new__" := e1_of e10 (ei 10 (by decide)) (PySem.W.mg_of X G g10) (.inr (.inl rfl)) ⟨_, _, _, _, _, _, _, _, _, _, _, _, _, _, _, l10, q10⟩
  have Z11 : E1 K mg "InvalidMasters" "index" c11 f11 [.type "ValueError", .type "Exception", .type "BaseException", .type "object"] "ValueError.__new__" := e1_of e11 (ei 11 (by decide)) (PySem.W.mg_of X G g11) (.inr (.inr (.inl rfl))) ⟨_, _, _, _, _, _, _, _, _, _, _, _, _, _, _, l11, q11⟩
  have Z15 : E1 K mg "UnknownCommand" "word" c15 f15 [.type "ValueError", .type "Exception", .type "BaseException", .type "object"] "ValueError.__new__" := e1_of e15 (ei 15 (by decide)) (PySem.W.mg_of X G g15) (.inr (.inr (.inr rfl))) ⟨_, _, _, _, _, _, _, _, _, _, _, _, _, _, _, l15, q15⟩
  have Z17 : E1 K mg "UnknownAxis" "name" c17 f17 [.type "LookupError", .type "Exception", .type "BaseException", .type "object"] "LookupError.__new__" := e1_of e17 (ei 17 (by decide)) (PySem.W.mg_of X G g17) (.inr (.inl rfl)) ⟨_, _, _, _, _, _, _, _, _, _, _, _, _, _, _, l17, q17⟩
  have Z18 : E1 K mg "UnknownLetter" "name" c18 f18 [.type "LookupError", .type "Exception", .type "BaseException", .type "object"] "LookupError.__new__" := e1_of e18 (ei 18 (by decide)) (PySem.W.mg_of X G g18) (.inr (.inl rfl)) ⟨_, _, _, _, _, _, _, _, _, _, _, _, _, _, _, l18, q18⟩
  have Z14 : E2 K mg "InvalidText" c14 f14 [.type "ValueError", .type "Exception", .type "BaseException", .type "object"] "ValueError.__new__" := by
    have a := e14
    have b := e14w
    have c := ei 14 (by decide)
    unfold e1B at a b
    simp only [Bool.and_eq_true, decide_eq_true_eq] at a b
    obtain ⟨h1, h2, h3, h4, h5, h6, h7, h8⟩ := a
    obtain ⟨_, _, _, w4, w5, _, _, _⟩ := b
    exact ⟨PySem.W.mg_of X G g14, h1, h2, c.hd, h3, c.ga, c.gg, h4, w4, h5, w5, h6, h7, h8, c.ex, ⟨_, _, _, _, _, _, _, _, _, _, _, _, _, _, _, _, _, _, _, _, l14, q14⟩⟩
  have TX : Tx K mg (fun i => [c0, c1, c2, c3, c4, c5, c6, c7, c8, c9, c10, c11, c12, c13, c14, c15, c16, c17, c18].getD i 0) (fun i => [0, 0, f2, f3, f4, 0, f6, f7, f8, f9, f10, f11, 0, 0, f14, f15, 0, f17, f18].getD i 0) CF CM := { g0 := PySem.W.mg_of X G g0, x0 := x0, k0 := k0, g1 := PySem.W.mg_of X G g1, x1 := x1, k1 := k1, g2 := PySem.W.mg_of X G g2, e2 := Z2, g3 := PySem.W.mg_of X G g3, e3 := Z3, g4 := PySem.W.mg_of X G g4, e4 := Z4, g5 := PySem.W.mg_of X G g5, x5 := x5, k5 := k5, g6 := PySem.W.mg_of X G g6, e6 := Z6, g7 := PySem.W.mg_of X G g7, e7 := Z7, g8 := PySem.W.mg_of X G g8, e8 := Z8, g9 := PySem.W.mg_of X G g9, e9 := Z9, g10 := PySem.W.mg_of X G g10, e10 := Z10, g11 := PySem.W.mg_of X G g11, e11 := Z11, g12 := PySem.W.mg_of X G g12, x12 := x12, k12 := k12, g13 := PySem.W.mg_of X G g13, x13 := x13, k13 := k13, g14 := PySem.W.mg_of X G g14, e14 := Z14, g15 := PySem.W.mg_of X G g15, e15 := Z15, g16 := PySem.W.mg_of X G g16, x16 := x16, k16 := k16, g17 := PySem.W.mg_of X G g17, e17 := Z17, g18 := PySem.W.mg_of X G g18, e18 := Z18, ei := ei, fl := ⟨Z14.ga, Z14.gg, Z14.exC, Z14.hd, Z14.nfL⟩, fw := ⟨Z14.ga, Z14.gg, Z14.exC, Z14.hd, Z14.nfW⟩, gF := PySem.W.mg_of X G gF, gM := PySem.W.mg_of X G gM, kc := fun i hi => (kk i hi).1, kF := fun i hi => (kk i hi).2.1, kM := fun i hi => (kk i hi).2.2.1, kV := fun i hi => (kk i hi).2.2.2.1, kL := fun i hi => (kk i hi).2.2.2.2.1 }
  have M0 := fun_mk (st := sPen) L0 Q0 K0
  have D0 : At K mg "_law_pen" F0 _ ["_law_script"] := ⟨PySem.W.mg_of X G A0, K0, M0.binds fun _ _ _ _ _ _ us hl => match us, hl with | [_], _ => rfl⟩
  have M1 := fun_mk (st := sDraw) L1 Q1 K1
  have D1 : At K mg "_law_draw" F1 _ ["_law_pen_here", "_law_many"] := ⟨PySem.W.mg_of X G A1, K1, M1.binds fun _ _ _ _ _ _ us hl => match us, hl with | [_, _], _ => rfl⟩
  have M2 := fun_mk (st := sValue) L2 Q2 K2
  have D2 : At K mg "_law_value" F2 _ ["_law_pen_here"] := ⟨PySem.W.mg_of X G A2, K2, M2.binds fun _ _ _ _ _ _ us hl => match us, hl with | [_], _ => rfl⟩
  have M3 := fun_mk (st := sAbove) L3 Q3 K3
  have D3 : At K mg "_law_above" F3 _ ["_law_error"] := ⟨PySem.W.mg_of X G A3, K3, M3.binds fun _ _ _ _ _ _ us hl => match us, hl with | [_], _ => rfl⟩
  have M4 := fun_mk (st := sClasses) L4 Q4 K4
  have D4 : At K mg "_law_classes" F4 _ ["_law_error"] := ⟨PySem.W.mg_of X G A4, K4, M4.binds fun _ _ _ _ _ _ us hl => match us, hl with | [_], _ => rfl⟩
  have M5 := fun_mk (st := sMade) L5 Q5 K5
  have D5 : At K mg "_law_made" F5 _ ["_law_one", "_law_two"] := ⟨PySem.W.mg_of X G A5, K5, M5.binds fun _ _ _ _ _ _ us hl => match us, hl with | [_, _], _ => rfl⟩
  have M6 := fun_mk (st := sFields) L6 Q6 K6
  have D6 : At K mg "_law_fields" F6 _ ["_law_found"] := ⟨PySem.W.mg_of X G A6, K6, M6.binds fun _ _ _ _ _ _ us hl => match us, hl with | [_], _ => rfl⟩
  have M7 := fun_mk (st := sLaw) L7 Q7 K7
  intro base s a ns H e0 sq hl
  refine run_at (k := 4) (ps := ["_law_script"]) (N := ["_law_script", "_law_pen_here", "_law_turn", "_law_one", "_law_two", "_law_found", "_law_at", "_law_text", "_law_told"]) (us := [.ref a]) (vs := [.ref a]) L7 Q7 scLaw ⟨rfl, by decide, by decide⟩ e0 (.of_eq rfl) (.cons rfl .nil) rfl fun hr => ?_
  have GD := ok_draw (P := P) (w := w) (base := base) M1 T.toBl
  exact law_body TX T (ok_pen M0 T.toBl) D0 (ok_value M2 T GD D1) D2 (ok_made M5 TX T) D5 (ok_fields M6 TX T) D6 (ok_classes M4 TX T) D4 (ok_above M3 TX T) D3 sq hl hr
end B1
open PySem PySem.W PyProof.Rows
set_option maxRecDepth 100000 in
set_option maxHeartbeats 0 in
theorem PySem.Challenge.cw_betweenfaces_k01_errors_and_their_fields_holds : PySem.Challenge.rw_betweenfaces_k01_errors_and_their_fields.Holds := by
  w_on; o_law; k_head; (case hw => w_witness2)
  k_fill
  refine B1.walk (l := PySem.Challenge.rw_betweenfaces_k01_errors_and_their_fields) rfl rfl (fun w h Y => PySem.W.kIn_of Y) ?F
  case F =>
    intro w mg fa h KX G hmg
    refine' B1.mk KX G hmg ?u_g0 ?u_g1 ?u_g2 ?u_g3 ?u_g4 ?u_g5 ?u_g6 ?u_g7 ?u_g8 ?u_g9 ?u_g10 ?u_g11 ?u_g12 ?u_g13 ?u_g14 ?u_g15 ?u_g16 ?u_g17 ?u_g18 ?u_gF ?u_gM ?u_n2 ?u_n3 ?u_n4 ?u_n6 ?u_n7 ?u_n8 ?u_n9 ?u_n10 ?u_n11 ?u_n14 ?u_n15 ?u_n17 ?u_n18 ?u_l2 ?u_q2 ?u_l3 ?u_q3 ?u_l4 ?u_q4 ?u_l6 ?u_q6 ?u_l7 ?u_q7 ?u_l8 ?u_q8 ?u_l9 ?u_q9 ?u_l10 ?u_q10 ?u_l11 ?u_q11 ?u_l14 ?u_q14 ?u_l15 ?u_q15 ?u_l17 ?u_q17 ?u_l18 ?u_q18 ?u_A0 ?u_L0 ?u_Q0 ?u_K0 ?u_A1 ?u_L1 ?u_Q1 ?u_K1 ?u_A2 ?u_L2 ?u_Q2 ?u_K2 ?u_A3 ?u_L3 ?u_Q3 ?u_K3 ?u_A4 ?u_L4 ?u_Q4 ?u_K4 ?u_A5 ?u_L5 ?u_Q5 ?u_K5 ?u_A6 ?u_L6 ?u_Q6 ?u_K6 ?u_A7 ?u_L7 ?u_Q7 ?u_K7 ?u_z_list ?u_z_int ?u_z_len ?u_z_abs ?u_z_range ?u_z_isinstance ?u_z_repr ?u_z_ValueError ?u_z_LookupError ?u_kit ?u_e2 ?u_e3 ?u_e4 ?u_e6 ?u_e7 ?u_e8 ?u_e9 ?u_e10 ?u_e11 ?u_e15 ?u_e17 ?u_e18 ?u_e14 ?u_e14w ?u_x0 ?u_k0 ?u_x1 ?u_k1 ?u_x5 ?u_k5 ?u_x12 ?u_k12 ?u_x13 ?u_k13 ?u_x16 ?u_k16
    (case u_g0 => k_is)
    (case u_g1 => k_is)
    (case u_g2 => k_is)
    (case u_g3 => k_is)
    (case u_g4 => k_is)
    (case u_g5 => k_is)
    (case u_g6 => k_is)
    (case u_g7 => k_is)
    (case u_g8 => k_is)
    (case u_g9 => k_is)
    (case u_g10 => k_is)
    (case u_g11 => k_is)
    (case u_g12 => k_is)
    (case u_g13 => k_is)
    (case u_g14 => k_is)
    (case u_g15 => k_is)
    (case u_g16 => k_is)
    (case u_g17 => k_is)
    (case u_g18 => k_is)
    (case u_gF => k_is)
    (case u_gM => k_is)
    (case u_n2 => k_is)
    (case u_n3 => k_is)
    (case u_n4 => k_is)
    (case u_n6 => k_is)
    (case u_n7 => k_is)
    (case u_n8 => k_is)
    (case u_n9 => k_is)
    (case u_n10 => k_is)
    (case u_n11 => k_is)
    (case u_n14 => k_is)
    (case u_n15 => k_is)
    (case u_n17 => k_is)
    (case u_n18 => k_is)
    (case u_l2 => k_is)
    (case u_q2 => k_is)
    (case u_l3 => k_is)
    (case u_q3 => k_is)
    (case u_l4 => k_is)
    (case u_q4 => k_is)
    (case u_l6 => k_is)
    (case u_q6 => k_is)
    (case u_l7 => k_is)
    (case u_q7 => k_is)
    (case u_l8 => k_is)
    (case u_q8 => k_is)
    (case u_l9 => k_is)
    (case u_q9 => k_is)
    (case u_l10 => k_is)
    (case u_q10 => k_is)
    (case u_l11 => k_is)
    (case u_q11 => k_is)
    (case u_l14 => k_is)
    (case u_q14 => k_is)
    (case u_l15 => k_is)
    (case u_q15 => k_is)
    (case u_l17 => k_is)
    (case u_q17 => k_is)
    (case u_l18 => k_is)
    (case u_q18 => k_is)
    (case u_A0 => k_is)
    (case u_L0 => k_is)
    (case u_Q0 => k_is)
    (case u_K0 => k_is)
    (case u_A1 => k_is)
    (case u_L1 => k_is)
    (case u_Q1 => k_is)
    (case u_K1 => k_is)
    (case u_A2 => k_is)
    (case u_L2 => k_is)
    (case u_Q2 => k_is)
    (case u_K2 => k_is)
    (case u_A3 => k_is)
    (case u_L3 => k_is)
    (case u_Q3 => k_is)
    (case u_K3 => k_is)
    (case u_A4 => k_is)
    (case u_L4 => k_is)
    (case u_Q4 => k_is)
    (case u_K4 => k_is)
    (case u_A5 => k_is)
    (case u_L5 => k_is)
    (case u_Q5 => k_is)
    (case u_K5 => k_is)
    (case u_A6 => k_is)
    (case u_L6 => k_is)
    (case u_Q6 => k_is)
    (case u_K6 => k_is)
    (case u_A7 => k_is)
    (case u_L7 => k_is)
    (case u_Q7 => k_is)
    (case u_K7 => k_is)
    (case u_z_list => k_is)
    (case u_z_int => k_is)
    (case u_z_len => k_is)
    (case u_z_abs => k_is)
    (case u_z_range => k_is)
    (case u_z_isinstance => k_is)
    (case u_z_repr => k_is)
    (case u_z_ValueError => k_is)
    (case u_z_LookupError => k_is)
    (case u_kit => kernel_rfl)
    (case u_e2 => kernel_rfl)
    (case u_e3 => kernel_rfl)
    (case u_e4 => kernel_rfl)
    (case u_e6 => kernel_rfl)
    (case u_e7 => kernel_rfl)
    (case u_e8 => kernel_rfl)
    (case u_e9 => kernel_rfl)
    (case u_e10 => kernel_rfl)
    (case u_e11 => kernel_rfl)
    (case u_e15 => kernel_rfl)
    (case u_e17 => kernel_rfl)
    (case u_e18 => kernel_rfl)
    (case u_e14 => kernel_rfl)
    (case u_e14w => kernel_rfl)
    (case u_x0 => kernel_rfl)
    (case u_k0 => kernel_rfl)
    (case u_x1 => kernel_rfl)
    (case u_k1 => kernel_rfl)
    (case u_x5 => kernel_rfl)
    (case u_k5 => kernel_rfl)
    (case u_x12 => kernel_rfl)
    (case u_k12 => kernel_rfl)
    (case u_x13 => kernel_rfl)
    (case u_k13 => kernel_rfl)
    (case u_x16 => kernel_rfl)
    (case u_k16 => kernel_rfl)
