import PyProof.Rows.All
import Wide.All
import OpenK.AllK
import Wide.FinOn
import KE.KExcInit
import KE.KExcMake
import HandS.ForMost
import HandS.ExcInit
import HandS.MakeKwOnly
import HandS.IsInst
import HandS.ExcIs
import HandS.ExcValue
import HandS.ExcOwn
import HandS.ExcField
import HandS.Dict
import HandS.RaiseMore
import PyProof.ReprRoads
import HandS.Steps
import HandS.Codes
import PyProof.InstNe
import KE.KOpsOwn
import HandS.OwnEq
import HandS.MapObj
import HandS.ClsMeth
import PyProof.FactsAll.object
import HandS.Gcd
import HandS.Lambda
import HandS.TryMany
import HandS.WordsExc
import HandS.More
import HandS.Wide
import HandS.Defaults
import PySem.Challenge.RW_betweenfaces_k02_fractions_in_lowest_ter
import PyProof.Rows.EqBoolInt
import PyProof.Rows.RegStrFacts
import KE.KNestM
import HandS.MakeKw
set_option Elab.async false
set_option linter.all false
set_option maxRecDepth 100000
set_option maxHeartbeats 4000000
/-! Own errors, with an own __init__ that stores or none, over any built-in base, made as values, by place and by name; their fields; isinstance. -/
namespace XO
open PySem PySem.Calls PySem.HandSPX PySem.Builtin PySem.Builtin.ObjectAttr
section
variable {M : Model} {A : Around} {E : Value → Shared → Prop} {hp : Heap} {gs : Array GenState} {dr : Drawn} {tk : Nat} {os : OsState}
variable {nA qA : Str} {C NA : Addr} {bsA tl tlB : List Value} {hd ab : Bool} {snA : List Str} {sbA : List Value} {cl : Option Bool} {ddA : Option Addr} {j0 j1 j2 j3 j5 : Option Value} {B newId initId : String}
theorem chk_new (F : ExcBaseFacts B newId initId tlB) (hT : ∀ Y : String, tl.contains (.type Y) = tlB.contains (.type Y)) {us : List Value} {kw : List (Str × Value)} {Q : Unit → Shared → Prop}
    (lC : hp.get? C = some (excClassObj nA qA C NA bsA tl hd snA sbA ab cl ddA j0 j1 j2 j3 j5 newId)) (q : Q () ⟨hp, gs, dr, tk, os⟩) :
    wpAny M A (checkBuiltinCall newId ⟨.ref C :: us, kw⟩) Q E ⟨hp, gs, dr, tk, os⟩ := by
  have c1 : (Value.ref C :: tl).contains (.type B) = true := by rw [List.contains_cons, hT, F.hasB, Bool.or_true]
  have c2 := F.noStar
  simp only [F.newRow, F.newSplit, F.newKind, checkBuiltinCall]
  repeat (first
    | refine wpAny_loadPart_at lC ?_
    | (refine wpAny_isSubtype_exc lC ?_; rw [c1])
    | refine wpAny_staticBase_exc lC ?_
    | refine wpAny_madeBy_exc lC ?_
    | simp only [bne_self_eq_false, Bool.false_eq_true, if_false]
    | wp_step)
  exact q
end
section
variable {prog : Program} {w : World} {A : Around} {E : Value → Shared → Prop} {R : Result → Shared → Prop} {hp : Heap} {gs : Array GenState} {dr : Drawn} {tk : Nat} {os : OsState}
variable {nA qA : Str} {C NA : Addr} {bsA tl tlB : List Value} {hd ab : Bool} {snA : List Str} {sbA : List Value} {cl : Option Bool} {ddA : Option Addr} {j0 j1 j2 j3 j5 : Option Value} {B newId initId : String}
theorem new_kw (F : ExcBaseFacts B newId initId tlB) (hT : ∀ Y : String, tl.contains (.type Y) = tlB.contains (.type Y)) {us : List Value} {kw : List (Str × Value)}
    (lC : hp.get? C = some (excClassObj nA qA C NA bsA tl hd snA sbA ab cl ddA j0 j1 j2 j3 j5 newId))
    (q : R (.ok (.ret (.ref (hp.objs.size + 1)))) ⟨(hp.push (W.kdv_tup us)).push (excO C hp.objs.size), gs, dr, tk, os⟩) (hl : us.length ≤ sizeLine) :
    codeAny (model prog w) A (.builtin newId ⟨.ref C :: us, kw⟩) R ⟨hp, gs, dr, tk, os⟩ := by
  have c0 := F.ends
  have c1 : (Value.ref C :: tl).contains (.type B) = true := by rw [List.contains_cons, hT, F.hasB, Bool.or_true]
  have c2 : (Value.ref C :: tl).contains (.type "AttributeError") = false := by rw [List.contains_cons, hT, F.noAttr]; rfl
  have c3 : (Value.ref C :: tl).contains (.type "NameError") = false := by rw [List.contains_cons, hT, F.noName]; rfl
  refine codeAny_builtinAt F.entry ?_
  unfold Builtin.«BaseException.__new__»
  refine wpAt_bind ?_
  show wpAt _ _ _ (stack >>= _) _ _ _
  refine wpAt_bind (wpAt_stack fun p1 p2 => wpAt_of_wpAny ?_)
  wp_walk
  refine wpAt_of_wpAny ?_
  rw [F.owner]
  repeat (first
    | with_reducible refine wpAny_madeHere_exc F.canon lC ?_
    | with_reducible refine wpAny_loadPart_at lC ?_
    | (with_reducible refine wpAny_isSubtype_exc lC ?_; first | rw [c1] | rw [c2] | rw [c3])
    | wp_step)
  show R _ _
  rw [Heap.size_push]
  exact q
theorem tcall_kw (F : ExcBaseFacts B newId initId tlB) (hT : ∀ Y : String, tl.contains (.type Y) = tlB.contains (.type Y)) {us : List Value} {kw : List (Str × Value)} {fI : Addr} {Q : Fin → Shared → Prop}
    (lC : hp.get? C = some (excClassObj nA qA C NA bsA tl hd snA sbA ab cl ddA j0 j1 j2 j3 j5 newId))
    (li : W.Looks (model prog w) hp (typeLookup (.ref C) "__init__") (some (.ref fI))) (lb : ∀ self, W.Looks (model prog w) hp (bindSpecial (.ref fI) self) (.ref fI, [self])) (hl : us.length ≤ sizeLine)
    (q : codeAny (model prog w) A (.call (.ref fI) ⟨.ref (hp.objs.size + 1) :: us, kw⟩)
      (fun r s' => match r with | .ok (.ret v) => v = .none ∧ Q (.done (.ret (.ref (hp.objs.size + 1)))) s' | .ok _ => False | .error e => E e s')
      ⟨(hp.push (W.kdv_tup us)).push (excO C hp.objs.size), gs, dr, tk, os⟩) :
    wpAny (model prog w) A (Builtin.«type.__call__» ⟨.ref C :: us, kw⟩) Q E ⟨hp, gs, dr, tk, os⟩ := by
  repeat (first
    | with_reducible refine wpAny_loadPart_at lC ?_
    | with_reducible refine wpAny_madeBy_exc lC ?_
    | wp_step)
  refine codeAny_call_builtin_code (Code.quiet_builtin _ F.quiet) (chk_new F hT lC ?_)
  refine new_kw F hT lC ?_ hl
  show wpAny _ _ _ _ _ _
  have kp : ∀ b o, hp.get? b = some o → ((hp.push (W.kdv_tup us)).push (excO C hp.objs.size)).get? b = some o := fun b o e =>
    Heap.get?_push_of_some _ (Heap.get?_push_of_some _ e)
  have lC1 := kp _ _ lC
  have lE : ((hp.push (W.kdv_tup us)).push (excO C hp.objs.size)).get? (hp.objs.size + 1) = some (excO C hp.objs.size) := by heap_get
  have cC : (Value.ref C :: tl).contains (.ref C) = true := by simp
  have i1 := li.keeps kp
  have b1 := (lb (.ref (hp.objs.size + 1))).keeps kp
  unfold isInstance
  repeat (first
    | with_reducible refine wpAny_loadPart_at lE ?_
    | (with_reducible refine wpAny_isSubtype_exc lC1 ?_; rw [cC])
    | wp_step)
  show wpAny _ _ (typeLookup (.ref C) _) _ _ _
  refine i1.at ?_
  refine wpAny_holding (wpAny_bind (b1.at ?_))
  refine wpAny_bind (wpAny_call (codeAny_mono q fun r s' z => ?_))
  rcases r with e | (v | _ | _ | _) <;> first | exact z | exact z.elim | skip
  obtain ⟨rfl, z⟩ := z
  first
    | exact wpAny_pure (wpAny_pure z)
    | (wp_walk; exact z)
/-- C(..), C an own error class with an own __init__ (fI), keywords among the arguments -/
theorem call_kw (F : ExcBaseFacts B newId initId tlB) (hT : ∀ Y : String, tl.contains (.type Y) = tlB.contains (.type Y)) {us : List Value} {kw : List (Str × Value)} {fI : Addr}
    (lC : hp.get? C = some (excClassObj nA qA C NA bsA tl hd snA sbA ab cl ddA j0 j1 j2 j3 j5 newId))
    (li : W.Looks (model prog w) hp (typeLookup (.ref C) "__init__") (some (.ref fI))) (lb : ∀ self, W.Looks (model prog w) hp (bindSpecial (.ref fI) self) (.ref fI, [self])) (hl : us.length ≤ sizeLine)
    (q : codeAny (model prog w) (A.under (.builtin "type.__call__" ⟨.ref C :: us, kw⟩)) (.call (.ref fI) ⟨.ref (hp.objs.size + 1) :: us, kw⟩) (W.InitBack (hp.objs.size + 1) R)
      ⟨(hp.push (W.kdv_tup us)).push (excO C hp.objs.size), gs, dr, tk, os⟩) :
    codeAny (model prog w) A (.call (.ref C) ⟨us, kw⟩) R ⟨hp, gs, dr, tk, os⟩ := by
  have l1 := tc_lookup
  have l2 := tc_bind (.ref C)
  have tC : (⟨hp, gs, dr, tk, os⟩ : Shared).TypeIs (.ref C) "type" := ⟨_, lC, rfl⟩
  refine codeAny_of_tree ?_
  show wpAny _ _ (callAny (.ref C) _) _ _ _
  repeat (any_goals (first
    | assumption
    | with_reducible refine wpAny_loadPart_at lC ?_
    | wp_step))
  refine ⟨rfl, ?_⟩
  refine codeAny_call_builtin_at (Code.quiet_builtin _ (by decide +kernel)) entry_typeCall (wpAny_check_type_call_sub lC (tcall_kw F hT lC li lb hl ?_))
  refine codeAny_mono q fun r s' z => ?_
  rcases r with e | (v | _ | _ | _) <;> exact z
/-- the first store into an error without a dict -/
theorem osa_new {K : W.Frag} {n : Str} {tn : Tok} {v : Value} {x t0 : Addr} (SF : StoreFacts B tlB "object.__setattr__" "object") (X : K.In hp) (hx : hp.get? x = some (excO C t0)) (ov : W.excOver K C tlB = true) (no : W.takerIn K C n = some none) (hh : W.hasDictIn K C = true)
    (q : ∀ h' tk' dx, (∀ b o, b ≠ x → hp.get? b = some o → h'.get? b = some o) → hp.objs.size ≤ dx → dx ≠ x → h'.get? x = some (W.excObj C t0 (some dx) .none) →
      h'.Ns1 dx (fun y => if y = n then some v else none) → R (.ok (.ret .none)) ⟨h', gs, dr, tk', os⟩) :
    codeAny (model prog w) A (.call (.builtin "object.__setattr__") ⟨[.ref x, .str n tn, v], []⟩) R ⟨hp, gs, dr, tk, os⟩ := by
  have xs : x ≠ hp.objs.size := Nat.ne_of_lt (Heap.lt_size hx)
  refine W.osa_openX (s := ⟨hp, gs, dr, tk, os⟩) (od := none) SF X ⟨hx, rfl, rfl, trivial⟩ ov no fun b => ?_
  obtain ⟨cd, hc, hd'⟩ := W.any_some hh
  refine wpAny_bind (wpAny_pure (wpAny_bind (W.instanceDict_exc (s := ⟨hp, gs, dr, tk, os⟩) hx (W.looks_clsIn X hc) hd' ?_)))
  show wpAny _ _ (storeInDict hp.objs.size (.str n tn) n v) _ _ _
  refine store_in_new ?_ fun h' tk' ns' sb => ?_
  · exact ⟨_, #[], _, (Heap.get?_update_ne _ _ _ _ xs.symm).trans (Heap.get?_push_at rfl rfl), rfl, fun e he => absurd he (by simp), fun _ => rfl⟩
  · have hx1 : (hp.push (W.dictOf [] 0)).get? x = some (excO C t0) := Heap.get?_push_of_some _ hx
    refine q h' tk' hp.objs.size (fun b o hb ho => ?_) (Nat.le_refl _) xs.symm ?_ ns'
    · exact (sb.2 b (Nat.ne_of_lt (Heap.lt_size ho))).trans ((Heap.get?_update_ne _ _ _ _ hb).trans (Heap.get?_push_of_some _ ho))
    · exact (sb.2 x xs).trans (Heap.get?_update_self _ hx1 rfl)
/-- a later store -/
theorem osa_more {K : W.Frag} {n : Str} {tn : Tok} {v : Value} {x t0 dx : Addr} {m0 : Str → Option Value} {nl : List Str} (SF : StoreFacts B tlB "object.__setattr__" "object") (X : K.In hp) (hx : hp.get? x = some (W.excObj C t0 (some dx) .none)) (hns : hp.Ns1 dx m0) (hw : Within m0 nl) (hz : nl.length ≤ 1000)
    (ov : W.excOver K C tlB = true) (no : W.takerIn K C n = some none) (hh : W.hasDictIn K C = true)
    (q : ∀ h' tk', (∀ b o, b ≠ dx → hp.get? b = some o → h'.get? b = some o) → h'.Ns1 dx (fun y => if y = n then some v else m0 y) → R (.ok (.ret .none)) ⟨h', gs, dr, tk', os⟩) :
    codeAny (model prog w) A (.call (.builtin "object.__setattr__") ⟨[.ref x, .str n tn, v], []⟩) R ⟨hp, gs, dr, tk, os⟩ := by
  obtain ⟨oD, _, _, hoD, _, _⟩ := hns.count hw
  refine W.osa_openX (s := ⟨hp, gs, dr, tk, os⟩) (od := some oD) SF X ⟨hx, rfl, rfl, hoD⟩ ov no fun b => ?_
  obtain ⟨cd, hc, hd'⟩ := W.any_some hh
  refine wpAny_bind (wpAny_pure (wpAny_bind (wpAny_bind (wpAny_loadPart hx (wpAny_bind ((W.looks_clsIn X hc).here ?_))))))
  rw [hd']
  refine wpAny_pure (a := some dx) ?_
  refine OEX.store_in_old hns hw hz fun h' tk' ns' sb => ?_
  exact q h' tk' (fun b o hb ho => (sb.2 b hb).trans ho) ns'
end
end XO
set_option maxRecDepth 100000
set_option maxHeartbeats 4000000
namespace XO
open PySem PySem.W PySem.Calls PyProof.Rows PySem.HandSPX
/-! ### the texts of the two kinds of __init__ -/
def a1 (n : Str) (p1 p2 : Pos) : Arguments := { posonlyargs := [], args := [{ arg := "self", annotation := none, pos := p1 }, { arg := n, annotation := none, pos := p2 }], vararg := none, kwonlyargs := [], kw_defaults := [], kwarg := none, defaults := [] }
def b1 (n : Str) (q1 q2 q3 q4 : Pos) : List Stmt := [.Assign [.Attribute (.Name "self" q1) n q2] (.Name n q3) q4]
def s1 (n : Str) : Scope := { kind := .function, names := [(PySem.Str.ofString "self", .local), (n, .local)], isGenerator := false, isCoroutine := false, more := [] }
/-- the fields' names -/
def Nm (n : Str) : Prop := n = "reason" ∨ n = "name" ∨ n = "index" ∨ n = "word"
/-- what the written part says of an error class whose __init__ stores one field -/
structure E1 (K : Frag) (mg : Str → Option Value) (x n : Str) (C fI : Addr) (tlB : List Value) (newId : String) : Prop where
  gC : mg x = some (.ref C)
  nm : Nm n
  em : excInitIn K C tlB newId = true
  ov : excOver K C tlB = true
  hd : hasDictIn K C = true
  sa : findIn K (.ref C) "__setattr__" = some (some (.builtin "object.__setattr__"))
  ga : findIn K (.ref C) "__getattribute__" = some (some (.builtin "BaseException.__getattribute__"))
  gg : findIn K (.ref C) "__getattr__" = some none
  no : takerIn K C n = some none
  nf : findIn K (.ref C) n = some none
  iC : findIn K (.ref C) "__init__" = some (some (.ref fI))
  tC : typeIn K (.ref fI) = some (.type "function")
  kC : keepIn K (.ref C) = true
  exC : subIn K (.ref C) (.type "BaseException") = some true
  fn : ∃ (qn : Str) (oc : Value) (od : Option Addr) (doc pm : Value) (an : Option Addr) (cdv ct : Value) (osl : Array (Option Value)) (p1 p2 q1 q2 q3 q4 : Pos),
    K.lookup fI = some ⟨oc, od, .func (fnOf "__init__" qn (a1 n p1 p2) (b1 n q1 q2 q3 q4) (s1 n) .none .none doc pm an cdv ct), osl⟩ ∧ codeIn K cdv qn = true
/-- the two ways to hand one value in -/
def Gv (n : Str) (v : Value) (us : List Value) (kw : List (Str × Value)) : Prop := (us = [v] ∧ kw = []) ∨ (us = [] ∧ kw = [(n, v)])
structure Made1 (h h' : Heap) (n : Str) (e C d : Addr) (v : Value) : Prop where
  keep : ∀ b o, h.get? b = some o → h'.get? b = some o
  new : h.objs.size ≤ e
  obj : ∃ t0, h'.get? e = some (excObj C t0 (some d) .none)
  dbig : h.objs.size ≤ d
  dne : d ≠ e
  ns : h'.Ns1 d (fun y => if y = n then some v else none)
theorem nameC {M : Model} {s : Shared} {nf : Str} {sc : Scope} {L a : Addr} {cd : Value} {m : Str → Option Value} {y : Str} {pos : Pos} {v : Value} {Q : Value → Shared → Prop} {A : Around} {E : Value → Shared → Prop} (hn : s.heap.Ns L m) (hv : m y = some v) (q : Q v s)
    (hk : sc.kind = .function := by rfl) (hl : (envOfC nf sc L a cd).kindOf y = some .local := by rfl) (hd : (y == ("__debug__" : Str)) = false := by decide) :
    wpAny M A (eval (.Name y pos) (envOfC nf sc L a cd)) Q E s := wpAny_Name (wpAny_loadName_local hk hl hn hv q) hd
section
variable {prog : Program} {w : World} {A : Around} {E : Value → Shared → Prop} {R : Result → Shared → Prop} {s : Shared} {K : Frag} {mg : Str → Option Value} {x n : Str} {C fI : Addr} {B newId initId : String} {tlB : List Value}
theorem init1 (T : E1 K mg x n C fI tlB newId) (SF : StoreFacts B tlB "object.__setattr__" "object") {e t0 : Addr} {v : Value} {us : List Value} {kw : List (Str × Value)} (g : Gv n v us kw) (X : K.In s.heap) (hlim : s.heap.NoLimit) (hx : s.heap.get? e = some (excO C t0)) (hr : A.depth < recursionLimit)
    (q : ∀ h' tk d, (∀ b o, b ≠ e → s.heap.get? b = some o → h'.get? b = some o) → s.heap.objs.size ≤ d → d ≠ e → h'.get? e = some (excObj C t0 (some d) .none) → h'.Ns1 d (fun y => if y = n then some v else none) →
      R (.ok (.ret .none)) { s with heap := h', toks := tk }) :
    codeAny (model prog w) A (.call (.ref fI) ⟨.ref e :: us, kw⟩) R s := by
  obtain ⟨qn, oc, od, doc, pm, an, cdv, ct, osl, p1, p2, q1, q2, q3, q4, ho, hcd⟩ := T.fn
  have hb : BindsTo s (fnOf "__init__" qn (a1 n p1 p2) (b1 n q1 q2 q3 q4) (s1 n) .none .none doc pm an cdv ct) ⟨.ref e :: us, kw⟩ [("self", .ref e), (n, v)] := by
    rcases T.nm with rfl | rfl | rfl | rfl <;> rcases g with ⟨rfl, rfl⟩ | ⟨rfl, rfl⟩ <;> exact BindsTo.of_eq (by first | rfl | with_unfolding_all rfl)
  refine Att.call_fn (binds := [("self", .ref e), (n, v)]) X hlim ho hcd hr hb ?_ (fun s₁ IC => ?_) rfl rfl rfl
  · rcases T.nm with rfl | rfl | rfl | rfl <;> first | rfl | decide | with_unfolding_all rfl
  · obtain ⟨h₁, tk₁, rfl⟩ := IC.toInCall.same
    have k : ∀ b o, s.heap.get? b = some o → h₁.get? b = some o := IC.toInCall.keep
    have hn := IC.toInCall.ns
    have X₁ : K.In h₁ := X.keeps k
    have hx₁ := k _ _ hx
    show wpAny _ _ (execs _ _) _ _ _
    refine wpAny_execs_cons (plainObj_wpAny_Assign_Attribute ?_)
    have kn : (envOfC qn (s1 n) s.heap.objs.size fI cdv).kindOf n = some .local := by
      rcases T.nm with rfl | rfl | rfl | rfl <;> first | rfl | with_unfolding_all rfl
    have ks : (envOfC qn (s1 n) s.heap.objs.size fI cdv).kindOf (Str.ofString "self") = some .local := by
      rcases T.nm with rfl | rfl | rfl | rfl <;> first | rfl | with_unfolding_all rfl
    have dn : (n == ("__debug__" : Str)) = false := by
      rcases T.nm with rfl | rfl | rfl | rfl <;> decide
    have vn : bindL (envOfC qn (s1 n) s.heap.objs.size fI cdv).kindOf [(Str.ofString "self", Value.ref e), (n, v)] (fun _ => none) n = some v := by
      rcases T.nm with rfl | rfl | rfl | rfl <;> first | rfl | with_unfolding_all rfl | kernel_rfl
    have vs : bindL (envOfC qn (s1 n) s.heap.objs.size fI cdv).kindOf [(Str.ofString "self", Value.ref e), (n, v)] (fun _ => none) (Str.ofString "self") = some (.ref e) := by
      rcases T.nm with rfl | rfl | rfl | rfl <;> first | rfl | with_unfolding_all rfl | kernel_rfl
    refine nameC (v := v) hn vn (nameC (v := .ref e) hn vs ?_ rfl ks) rfl kn dn
    refine set_plain X₁ (ox := excO C t0) (od := none) ⟨hx₁, rfl, rfl, trivial⟩ T.sa ?_
    refine osa_new SF X₁ hx₁ T.ov T.no T.hd fun h3 tk3 d k3 big ne hx3 hn3 => ?_
    show wpAny _ _ (execs _ _) _ _ _
    have z : s.heap.objs.size < h₁.objs.size := hn.lt
    exact wpAny_execs_nil (q h3 tk3 d (fun b o hb e => k3 b o hb (k b o e)) (Nat.le_of_lt (Nat.lt_of_lt_of_le z big)) ne hx3 hn3)
theorem made1 (F : ExcBaseFacts B newId initId tlB) (T : E1 K mg x n C fI tlB newId) (SF : StoreFacts B tlB "object.__setattr__" "object") {v : Value} {us : List Value} {kw : List (Str × Value)} (g : Gv n v us kw) (X : K.In s.heap) (hlim : s.heap.NoLimit) (hr : A.depth + 1 < recursionLimit)
    (q : ∀ h' tk e d, Made1 s.heap h' n e C d v → R (.ok (.ret (.ref e))) { s with heap := h', toks := tk }) :
    codeAny (model prog w) A (.call (.ref C) ⟨us, kw⟩) R s := by
  obtain ⟨nA, NA, qA, bsA, tl, hd, snA, sbA, ab, cl, ddA, j0, j1, j2, j3, j5, lC, hT⟩ := excInit_of X T.em
  obtain ⟨hp, gs, dr, tk, os⟩ := s
  have k : ∀ b o, hp.get? b = some o → ((hp.push (kdv_tup us)).push (excO C hp.objs.size)).get? b = some o := fun b o e => Heap.get?_push_of_some _ (Heap.get?_push_of_some _ e)
  have hget : ((hp.push (kdv_tup us)).push (excO C hp.objs.size)).get? (hp.objs.size + 1) = some (excO C hp.objs.size) := by heap_get
  have hl : us.length ≤ sizeLine := by
    rw [sizeLine_eq]
    rcases g with ⟨rfl, _⟩ | ⟨rfl, _⟩ <;> simp
  refine call_kw F hT lC (looks_findIn X T.iC) (fun self => bind_fn X self T.tC) hl ?_
  refine init1 (s := ⟨(hp.push (kdv_tup us)).push (excO C hp.objs.size), gs, dr, tk, os⟩) T SF g (X.keeps k) (hlim.keeps k) hget hr fun h' tk' d k' dn ne hx hns => ?_
  have old : ∀ b o, hp.get? b = some o → h'.get? b = some o := fun b o e => k' b o (Nat.ne_of_lt (Nat.lt_succ_of_lt (Heap.lt_size e))) (k b o e)
  have z : hp.objs.size ≤ d := by
    have y : ((hp.push (kdv_tup us)).push (excO C hp.objs.size)).objs.size ≤ d := dn
    rw [Heap.size_push, Heap.size_push] at y
    omega
  exact ⟨rfl, q h' tk' (hp.objs.size + 1) d ⟨old, Nat.le_succ _, ⟨_, hx⟩, z, ne, hns⟩⟩
end
end XO
set_option maxRecDepth 100000
set_option maxHeartbeats 4000000
namespace XO
open PySem PySem.W PySem.Calls PyProof.Rows PySem.HandSPX
/-! ### the error with two fields -/
def a2 (p1 p2 p3 : Pos) : Arguments := { posonlyargs := [], args := [{ arg := "self", annotation := none, pos := p1 }, { arg := "line", annotation := none, pos := p2 }, { arg := "word", annotation := none, pos := p3 }], vararg := none, kwonlyargs := [], kw_defaults := [], kwarg := none, defaults := [] }
def b2 (q1 q2 q3 q4 r1 r2 r3 r4 : Pos) : List Stmt := [.Assign [.Attribute (.Name "self" q1) "line" q2] (.Name "line" q3) q4, .Assign [.Attribute (.Name "self" r1) "word" r2] (.Name "word" r3) r4]
def s2 : Scope := { kind := .function, names := [(PySem.Str.ofString "self", .local), (PySem.Str.ofString "line", .local), (PySem.Str.ofString "word", .local)], isGenerator := false, isCoroutine := false, more := [] }
structure E2 (K : Frag) (mg : Str → Option Value) (x : Str) (C fI : Addr) (tlB : List Value) (newId : String) : Prop where
  gC : mg x = some (.ref C)
  em : excInitIn K C tlB newId = true
  ov : excOver K C tlB = true
  hd : hasDictIn K C = true
  sa : findIn K (.ref C) "__setattr__" = some (some (.builtin "object.__setattr__"))
  ga : findIn K (.ref C) "__getattribute__" = some (some (.builtin "BaseException.__getattribute__"))
  gg : findIn K (.ref C) "__getattr__" = some none
  noL : takerIn K C "line" = some none
  noW : takerIn K C "word" = some none
  nfL : findIn K (.ref C) "line" = some none
  nfW : findIn K (.ref C) "word" = some none
  iC : findIn K (.ref C) "__init__" = some (some (.ref fI))
  tC : typeIn K (.ref fI) = some (.type "function")
  kC : keepIn K (.ref C) = true
  exC : subIn K (.ref C) (.type "BaseException") = some true
  fn : ∃ (qn : Str) (oc : Value) (od : Option Addr) (doc pm : Value) (an : Option Addr) (cdv ct : Value) (osl : Array (Option Value)) (p1 p2 p3 q1 q2 q3 q4 r1 r2 r3 r4 : Pos),
    K.lookup fI = some ⟨oc, od, .func (fnOf "__init__" qn (a2 p1 p2 p3) (b2 q1 q2 q3 q4 r1 r2 r3 r4) s2 .none .none doc pm an cdv ct), osl⟩ ∧ codeIn K cdv qn = true
def Gv2 (v u : Value) (us : List Value) (kw : List (Str × Value)) : Prop := (us = [v, u] ∧ kw = []) ∨ (us = [] ∧ kw = [(Str.ofString "word", u), (Str.ofString "line", v)])
structure Made2 (h h' : Heap) (e C d : Addr) (v u : Value) : Prop where
  keep : ∀ b o, h.get? b = some o → h'.get? b = some o
  new : h.objs.size ≤ e
  obj : ∃ t0, h'.get? e = some (excObj C t0 (some d) .none)
  dbig : h.objs.size ≤ d
  dne : d ≠ e
  ns : h'.Ns1 d (fun y => if y = "word" then some u else if y = "line" then some v else none)
section
variable {prog : Program} {w : World} {A : Around} {E : Value → Shared → Prop} {R : Result → Shared → Prop} {s : Shared} {K : Frag} {mg : Str → Option Value} {x n : Str} {C fI : Addr} {B newId initId : String} {tlB : List Value}
theorem init2 (T : E2 K mg x C fI tlB newId) (SF : StoreFacts B tlB "object.__setattr__" "object") {e t0 : Addr} {v u : Value} {us : List Value} {kw : List (Str × Value)} (g : Gv2 v u us kw) (X : K.In s.heap) (hlim : s.heap.NoLimit) (hx : s.heap.get? e = some (excO C t0)) (hnx : K.lookup e = none) (hr : A.depth < recursionLimit)
    (q : ∀ h' tk d, (∀ b o, b ≠ e → s.heap.get? b = some o → h'.get? b = some o) → s.heap.objs.size ≤ d → d ≠ e → h'.get? e = some (excObj C t0 (some d) .none) → h'.Ns1 d (fun y => if y = "word" then some u else if y = "line" then some v else none) →
      R (.ok (.ret .none)) { s with heap := h', toks := tk }) :
    codeAny (model prog w) A (.call (.ref fI) ⟨.ref e :: us, kw⟩) R s := by
  obtain ⟨qn, oc, od, doc, pm, an, cdv, ct, osl, p1, p2, p3, q1, q2, q3, q4, r1, r2, r3, r4, ho, hcd⟩ := T.fn
  have hb : BindsTo s (fnOf "__init__" qn (a2 p1 p2 p3) (b2 q1 q2 q3 q4 r1 r2 r3 r4) s2 .none .none doc pm an cdv ct) ⟨.ref e :: us, kw⟩ [("self", .ref e), ("line", v), ("word", u)] := by
    rcases g with ⟨rfl, rfl⟩ | ⟨rfl, rfl⟩ <;> exact BindsTo.of_eq (by first | rfl | with_unfolding_all rfl)
  refine Att.call_fn (binds := [("self", .ref e), ("line", v), ("word", u)]) X hlim ho hcd hr hb (by first | rfl | decide | with_unfolding_all rfl) (fun s₁ IC => ?_) rfl rfl rfl
  obtain ⟨h₁, tk₁, rfl⟩ := IC.toInCall.same
  have k : ∀ b o, s.heap.get? b = some o → h₁.get? b = some o := IC.toInCall.keep
  have hn := IC.toInCall.ns
  have X₁ : K.In h₁ := X.keeps k
  have hx₁ := k _ _ hx
  have z : s.heap.objs.size < h₁.objs.size := hn.lt
  have ze : s.heap.objs.size ≠ e := Nat.ne_of_gt (Heap.lt_size hx)
  show wpAny _ _ (execs _ _) _ _ _
  refine wpAny_execs_cons (plainObj_wpAny_Assign_Attribute ?_)
  refine nameC (v := v) hn (by first | rfl | with_unfolding_all rfl | kernel_rfl) (nameC (v := .ref e) hn (by first | rfl | with_unfolding_all rfl | kernel_rfl) ?_)
  refine set_plain X₁ (ox := excO C t0) (od := none) ⟨hx₁, rfl, rfl, trivial⟩ T.sa ?_
  refine osa_new SF X₁ hx₁ T.ov T.noL T.hd fun h3 tk3 d k3 big ne hx3 hn3 => ?_
  have hn' : h3.Ns s.heap.objs.size _ := hn.at fun o e' => k3 _ o ze e'
  show wpAny _ _ (execs _ _) _ _ _
  refine wpAny_execs_cons (plainObj_wpAny_Assign_Attribute ?_)
  refine nameC (v := u) hn' (by first | rfl | with_unfolding_all rfl | kernel_rfl) (nameC (v := .ref e) hn' (by first | rfl | with_unfolding_all rfl | kernel_rfl) ?_)
  obtain ⟨oD, _, _, hoD, _, _⟩ := hn3.count (Within.cons "line" v Within.nil)
  have X₃ : K.In h3 := fun b o e' => k3 b o (fun z' => by rw [z', hnx] at e'; cases e') (k b o (X b o e'))
  refine set_plain X₃ (ox := excObj C t0 (some d) .none) (od := some oD) ⟨hx3, rfl, rfl, hoD⟩ T.sa ?_
  refine osa_more SF X₃ hx3 hn3 (Within.cons "line" v Within.nil) (by decide) T.ov T.noW T.hd fun h4 tk4 k4 hn4 => ?_
  show wpAny _ _ (execs _ _) _ _ _
  refine wpAny_execs_nil (q h4 tk4 d (fun b o hb e' => k4 b o (Nat.ne_of_lt (Nat.lt_of_lt_of_le (Heap.lt_size (k b o e')) big)) (k3 b o hb (k b o e'))) (Nat.le_of_lt (Nat.lt_of_lt_of_le z big)) ne (k4 e _ ne.symm hx3) hn4)
theorem made2 (F : ExcBaseFacts B newId initId tlB) (T : E2 K mg x C fI tlB newId) (SF : StoreFacts B tlB "object.__setattr__" "object") {v u : Value} {us : List Value} {kw : List (Str × Value)} (g : Gv2 v u us kw) (X : K.In s.heap) (hlim : s.heap.NoLimit) (hr : A.depth + 1 < recursionLimit)
    (q : ∀ h' tk e d, Made2 s.heap h' e C d v u → R (.ok (.ret (.ref e))) { s with heap := h', toks := tk }) :
    codeAny (model prog w) A (.call (.ref C) ⟨us, kw⟩) R s := by
  obtain ⟨nA, NA, qA, bsA, tl, hd, snA, sbA, ab, cl, ddA, j0, j1, j2, j3, j5, lC, hT⟩ := excInit_of X T.em
  obtain ⟨hp, gs, dr, tk, os⟩ := s
  have k : ∀ b o, hp.get? b = some o → ((hp.push (kdv_tup us)).push (excO C hp.objs.size)).get? b = some o := fun b o e => Heap.get?_push_of_some _ (Heap.get?_push_of_some _ e)
  have hget : ((hp.push (kdv_tup us)).push (excO C hp.objs.size)).get? (hp.objs.size + 1) = some (excO C hp.objs.size) := by heap_get
  have hl : us.length ≤ sizeLine := by
    rw [sizeLine_eq]
    rcases g with ⟨rfl, _⟩ | ⟨rfl, _⟩ <;> simp
  have hnx : K.lookup (hp.objs.size + 1) = none := by
    cases e : K.lookup (hp.objs.size + 1) with
    | none => rfl
    | some o =>
      have y : hp.get? (hp.objs.size + 1) = some o := X _ _ e
      exact absurd (Nat.lt_of_succ_lt (Heap.lt_size y)) (Nat.lt_irrefl _)
  refine call_kw F hT lC (looks_findIn X T.iC) (fun self => bind_fn X self T.tC) hl ?_
  refine init2 (s := ⟨(hp.push (kdv_tup us)).push (excO C hp.objs.size), gs, dr, tk, os⟩) T SF g (X.keeps k) (hlim.keeps k) hget hnx hr fun h' tk' d k' dn ne hx hns => ?_
  have old : ∀ b o, hp.get? b = some o → h'.get? b = some o := fun b o e => k' b o (Nat.ne_of_lt (Nat.lt_succ_of_lt (Heap.lt_size e))) (k b o e)
  have z : hp.objs.size ≤ d := by
    have y : ((hp.push (kdv_tup us)).push (excO C hp.objs.size)).objs.size ≤ d := dn
    rw [Heap.size_push, Heap.size_push] at y
    omega
  exact ⟨rfl, q h' tk' (hp.objs.size + 1) d ⟨old, Nat.le_succ _, ⟨_, hx⟩, z, ne, hns⟩⟩
end
/-! ### isinstance: what an error's class says -/
structure EI (K : Frag) (D : Addr) : Prop where
  ga : findIn K (.ref D) "__getattribute__" = some (some (.builtin "BaseException.__getattribute__"))
  gg : findIn K (.ref D) "__getattr__" = some none
  ex : subIn K (.ref D) (.type "BaseException") = some true
  hd : hasDictIn K D = true
  cl : findIn K (.ref D) "__class__" = some (some (.builtin "object.__class__"))
  sp : specialIn K (.builtin "object.__class__") "__get__" = some (some (.builtin "getset_descriptor.__get__"))
  tk : takesIn K (.builtin "object.__class__") = some true
  mr : mroIn K D (.type "object") = some true
section
variable {prog : Program} {w : World} {A : Around} {E : Value → Shared → Prop} {s : Shared} {K : Frag} {x D : Addr} {ox : Obj} {od : Option Obj}
theorem EI.find (T : EI K D) : findObj K D od "__class__" = some (.bind (.builtin "getset_descriptor.__get__") (.builtin "object.__class__")) := by
  obtain ⟨cd, hc, _⟩ := any_some T.hd
  unfold findObj
  rw [hc, Option.bind_some, T.cl, Option.bind_some]
  simp [T.sp, T.tk]
/-- object.__class__ by the exceptions' own __getattribute__ -/
theorem EI.told (T : EI K D) {Q : Value → Shared → Prop} {t : Tok} (X : K.In s.heap) (I : InstAt s.heap x ox D od) (q : Q (.ref D) s) : wpAny (model prog w) A (call (.builtin "BaseException.__getattribute__") [.ref x, .str "__class__" t]) Q E s := by
  have ty := I.type (M := model prog w)
  have err : Looks (model prog w) s.heap (isInstance (.ref x) (.type "BaseException")) true := ty.andThen (looks_subIn X T.ex)
  have fd := looks_find (M := model prog w) X I T.find
  have S := PySem.F.excAttr_ValueError.ga
  obtain ⟨hp, gs, dr, tk, os⟩ := s
  refine wpAny_call (codeAny_call_builtin S.plain PySem.F.entry_bexc_ga ?_)
  refine check_slot (i := "BaseException.__getattribute__") (owner := "BaseException") (n := "__getattribute__") (self := .ref x) (rest := [.str "__class__" t]) (kw := []) (by decide +kernel) (by decide +kernel) err (PySem.F.args_bexc_ga (.ref x) (.str "__class__" t)) ?_
  unfold Builtin.«object.__getattribute__»
  have two : slotArgs "__getattribute__" 1 ⟨[.ref x, .str "__class__" t], []⟩ = pure (Value.ref x, [Value.str "__class__" t]) := by simp only [slotArgs]; rfl
  refine wpAny_bind (wpAny_of_eq two ?_)
  refine wpAny_bind (wpAny_pure ?_)
  refine wpAny_bind (ty.at ?_)
  refine wpAny_bind (fd.at ?_)
  have get : wpAny (model prog w) (A.under (.builtin "BaseException.__getattribute__" ⟨[.ref x, .str "__class__" t], []⟩)) (call (.builtin "getset_descriptor.__get__") [.builtin "object.__class__", .ref x, .ref D]) (fun v s' => v = .ref D ∧ s' = ⟨hp, gs, dr, tk, os⟩) E ⟨hp, gs, dr, tk, os⟩ :=
    wpAny_call (class_get (s := ⟨hp, gs, dr, tk, os⟩) (ox := ox) (od := od) X I T.mr ⟨rfl, rfl⟩)
  show wpAny _ _ (holding [Value.builtin "object.__class__"] (call (.builtin "getset_descriptor.__get__") _) >>= ret) _ _ _
  refine wpAny_bind (wpAny_holding (wpAny_mono get (fun v s' z => ?_) fun _ _ z => z))
  obtain ⟨rfl, rfl⟩ := z
  exact wpAny_pure q
theorem EI.ask (T : EI K D) {Q : Option Value → Shared → Prop} (X : K.In s.heap) (I : InstAt s.heap x ox D od) (q : Q (some (.ref D)) { s with toks := s.toks + 1 }) : wpAny (model prog w) A (getAttr? (.ref x) "__class__") Q E s := by
  obtain ⟨hp, gs, dr, t, os⟩ := s
  have ty := I.type (M := model prog w)
  have ga := looks_findIn (M := model prog w) X T.ga
  have gg := looks_findIn (M := model prog w) X T.gg
  have notObj : (Value.builtin "BaseException.__getattribute__" == Value.builtin "object.__getattribute__") = false := by decide +kernel
  have heapD : onTheHeap (Value.ref D) = true := rfl
  have heapB : onTheHeap (Value.builtin "BaseException.__getattribute__") = false := rfl
  have no1 : (onTheHeap (Value.ref D) && (Value.builtin "BaseException.__getattribute__" == Value.builtin "object.__getattribute__")) = false := by rw [notObj, Bool.and_false]
  have no2 : ∀ b : Bool, (b && onTheHeap (Value.builtin "BaseException.__getattribute__")) = false := fun b => by rw [heapB, Bool.and_false]
  unfold getAttr? getAttrBy? getAttrBy
  refine wpAny_bind (wpAny_mkText (wpAny_bind (wpAny_attempt (wpAny_holding (wpAny_bind (ty.at (wpAny_bind (ga.at ?_))))))))
  show wpAny _ _ (ite ((onTheHeap (Value.ref D) && (Value.builtin "BaseException.__getattribute__" == Value.builtin "object.__getattribute__")) = true) _ _) _ _ _
  rw [no1]
  simp only [Bool.false_eq_true, if_false]
  unfold getAttrByItsOwn hookBefore
  rw [if_pos heapD]
  refine wpAny_bind (gg.at (wpAny_bind (wpAny_attempt (wpAny_holding ?_))))
  unfold callGetattribute
  rw [no2]
  simp only [Bool.false_eq_true, if_false]
  unfold boundAndCalled
  rw [PySem.F.excAttr_ValueError.ga.bind (.ref x)]
  refine wpAny_bind (wpAny_pure ?_)
  refine EI.told (s := ⟨hp, gs, dr, t + 1, os⟩) T X I ?_
  show wpAny _ _ (handedOut (.ref D)) _ _ _
  rw [handedOut_of (v := .ref D) rfl]
  first
    | exact wpAny_pure q
    | exact wpAny_pure (wpAny_pure q)
    | exact wpAny_pure (wpAny_bind (wpAny_pure (wpAny_pure q)))
theorem EI.kit (T : EI K D) : KitX K (.ref x) (.ref D) (fun h => ∃ ox od, InstAt h x ox D od) where
  ty := fun _ _ _ ⟨_, _, I⟩ => I.type
  it := fun _ _ X _ => by
    obtain ⟨cdD, hc, _⟩ := any_some T.hd
    unfold clsIn at hc
    split at hc
    · rename_i c' d' cd' sl' ho
      intro A' Q' E' s' k q
      unfold isType loadHead
      exact wpAny_bind (wpAny_loadPart (k _ _ (X _ _ ho)) (wpAny_pure q))
    · cases hc
  ne := fun h tp dd its n sl X htp => by
    obtain ⟨cdD, hc, _⟩ := any_some T.hd
    refine Bool.eq_false_iff.mpr fun q => ?_
    have e : D = tp := Value.ref.inj (beq_iff_eq.mp q)
    subst e
    unfold clsIn at hc
    split at hc
    · rename_i c' d' cd' sl' ho
      have z := (X _ _ ho).symm.trans htp
      cases z
    · cases hc
  ca := fun X ⟨_, _, I⟩ k => T.ask X I k
end
end XO
set_option maxRecDepth 100000
set_option maxHeartbeats 4000000
namespace XO
open PySem PySem.Spec PyProof.Rows L2
section
variable {X : Cx} {x n : Str} {C fI : Addr} {B newId initId : String} {tlB : List Value} {e : Expr} {te : TE} {kws : List Keyword} {tk : TA} {p pos : Pos}
/-- two new objects at once -/
theorem laid2 {pins : List (Addr × Obj)} {σ : L2.St} {H : Hp} {s : Shared} {h' : Heap} {d a : Addr} {u o : HO} {t' : Nat} (I : Inv X pins σ H s) (k : ∀ b w, s.heap.get? b = some w → h'.get? b = some w) (hd : s.heap.objs.size ≤ d) (ha : s.heap.objs.size ≤ a) (ne : d ≠ a)
    (ou : ∀ G : Heap, (∀ w, h'.get? d = some w → G.get? d = some w) → ObjOk X.prog X.w (upd H d u) G d u) (oo : ObjOk X.prog X.w (upd (upd H d u) a o) h' a o) : Inv X pins σ (upd (upd H d u) a o) { s with heap := h', toks := t' } := by
  obtain ⟨G, g1, g2⟩ := restrict h' fun b => decide (b ≠ a)
  have gk : ∀ b, b ≠ a → G.get? b = h'.get? b := fun b hb => g1 b (decide_eq_true hb)
  have ga : G.get? a = none := g2 a (by simp)
  have lt : ∀ b w, s.heap.get? b = some w → b ≠ a := fun b w q => Nat.ne_of_lt (Nat.lt_of_lt_of_le (Heap.lt_size q) ha)
  have J : Inv X pins σ (upd H d u) ⟨G, s.gens, s.drawn, t', s.os⟩ := I.laid (t' := t') (fun b w q => (gk b (lt b w q)).trans (k b w q)) hd (ou G fun w q => (gk d ne).trans q)
  have na : (upd H d u) a = none := by
    rw [upd_ne ne.symm]
    exact I.hok.fresh ha
  exact J.laidN (t' := t') (fun b w q => by
    by_cases hb : b = a
    · have z : G.get? b = some w := q
      rw [hb, ga] at z
      cases z
    · exact (gk b hb).symm.trans q) ga na oo
theorem made1_inv {pins : List (Addr × Obj)} {σ : L2.St} {H : Hp} {s : Shared} {h' : Heap} {d a : Addr} {v : V} {u : Value} {t' : Nat} (I : Inv X pins σ H s) (r : RelV v u) (M : Made1 s.heap h' n a C d u) :
    Inv X pins σ (upd (upd H d (exd d [(n, v)])) a (exo a C (some d))) { s with heap := h', toks := t' } := by
  obtain ⟨t0, ho⟩ := M.obj
  exact laid2 I M.keep M.dbig M.new M.dne (fun G g => exd_ok (M.ns.at fun w q => g w q) (relO_put (fs := []) r fun _ => True.intro)) (exo_ok ho)
theorem made2_inv {pins : List (Addr × Obj)} {σ : L2.St} {H : Hp} {s : Shared} {h' : Heap} {d a : Addr} {v y : V} {u z : Value} {t' : Nat} (I : Inv X pins σ H s) (r : RelV v u) (ry : RelV y z) (M : Made2 s.heap h' a C d u z) :
    Inv X pins σ (upd (upd H d (exd d [("word", y), ("line", v)])) a (exo a C (some d))) { s with heap := h', toks := t' } := by
  obtain ⟨t0, ho⟩ := M.obj
  exact laid2 I M.keep M.dbig M.new M.dne (fun G g => exd_ok (M.ns.at fun w q => g w q) (relO_put (fs := [("line", v)]) ry (relO_put (fs := []) r fun _ => True.intro))) (exo_ok ho)
/-- C(e) or C(n=e), the error's field named n -/
def tE1 (C : Addr) (n : Str) (ta : TA) : TE := fun σ H Q => ta σ H fun vs H1 => ∃ v, vs = [v] ∧ ∀ d a, H1 d = none → H1 a = none → d ≠ a → Q (.ref a) (upd (upd H1 d (exd d [(n, v)])) a (exo a C (some d)))
/-- C(line, word) -/
def tE2 (C : Addr) (ta : TA) : TE := fun σ H Q => ta σ H fun vs H1 => ∃ v u, vs = [v, u] ∧ ∀ d a, H1 d = none → H1 a = none → d ≠ a → Q (.ref a) (upd (upd H1 d (exd d [("word", u), ("line", v)])) a (exo a C (some d)))
/-- C(word=.., line=..) -/
def tE2k (C : Addr) (ta : TA) : TE := fun σ H Q => ta σ H fun vs H1 => ∃ v u, vs = [u, v] ∧ ∀ d a, H1 d = none → H1 a = none → d ≠ a → Q (.ref a) (upd (upd H1 d (exd d [("word", u), ("line", v)])) a (exo a C (some d)))
/-- C(), an error without fields -/
def tE0 (C : Addr) : TE := fun _ H Q => ∀ a, H a = none → Q (.ref a) (upd H a (exo a C none))
theorem pe_e1 {ta : TA} (F : ExcBaseFacts B newId initId tlB) (SF : StoreFacts B tlB "object.__setattr__" "object") (T : E1 X.K X.mg x n C fI tlB newId) (hr : Room 0 X.A) (hg : Gl X x) (ha : PA X (e :: []) ta)
    (hdb : (x == ("__debug__" : Str)) = false := by decide) (hs : starEach (e :: []) X.env = (false, eval e X.env) :: starEach [] X.env := by rfl) (hpl : (backTo pos (starEach [] X.env)).any (·.1) = false := by rfl) :
    PE X (.Call (.Name x p) [e] [] pos) (tE1 C n ta) := by
  refine ⟨fun pins s σ H Q I h => ?_⟩
  refine wpAny_Call_Name_kw (ld_glob I hg T.gC ?_ hdb)
  refine PySem.W.callWith_K (h₀ := X.base) I.ok.mod.kin T.kC (thn (ha.run pos pins s σ H _ I h) fun us s1 hh => ?_) hs hpl
  obtain ⟨vs, H1, I1, r1, v, rfl, q1⟩ := hh
  refine ⟨I1.kIn, ?_⟩
  obtain ⟨u, rfl, ru⟩ := vals1 r1
  show wpAny _ _ (call (.ref C) [u]) _ _ _
  refine wpAny_call (made1 F T SF (.inl ⟨rfl, rfl⟩) I1.kIn I1.nolimit (by have := hr.dp; omega) fun h' tk' a d M => ?_)
  exact ⟨.ref a, _, made1_inv I1 ru M, rfl, q1 d a (I1.hok.fresh M.dbig) (I1.hok.fresh M.new) M.dne⟩
theorem pe_e1k {ta : TA} (F : ExcBaseFacts B newId initId tlB) (SF : StoreFacts B tlB "object.__setattr__" "object") (T : E1 X.K X.mg x n C fI tlB newId) (hr : Room 0 X.A) (hg : Gl X x) (hk : PK X kws ta)
    (hks : (backToKw pos (keywordEach kws X.env)).filterMap (·.1) = [n] := by rfl) (hall : (backToKw pos (keywordEach kws X.env)).all (·.1.isSome) = true := by rfl) (hdb : (x == ("__debug__" : Str)) = false := by decide)
    (hpl : ((backTo pos (starEach [] X.env)).any (·.1) || (backToKw pos (keywordEach kws X.env)).any (·.1.isNone)) = false := by rfl) :
    PE X (.Call (.Name x p) [] kws pos) (tE1 C n ta) := by
  refine ⟨fun pins s σ H Q I h => ?_⟩
  refine wpAny_Call_Name_kw (ld_glob I hg T.gC ?_ hdb)
  refine PySem.W.callWith_KW0 (h₀ := X.base) I.ok.mod.kin T.kC hall ?_ hpl
  refine thn (hk.run pos pins s σ H _ I h) fun ws s2 ⟨vs, H1, I1, r1, v, e', q1⟩ => ⟨I1.kIn, ?_⟩
  subst e'
  obtain ⟨u, rfl, ru⟩ := vals1 r1
  rw [hks]
  show wpAny _ _ (call (.ref C) [] [(n, u)]) _ _ _
  refine wpAny_call (made1 F T SF (.inr ⟨rfl, rfl⟩) I1.kIn I1.nolimit (by have := hr.dp; omega) fun h' tk' a d M => ?_)
  exact ⟨.ref a, _, made1_inv I1 ru M, rfl, q1 d a (I1.hok.fresh M.dbig) (I1.hok.fresh M.new) M.dne⟩
theorem pe_e2 {ta : TA} {f : Expr} (F : ExcBaseFacts B newId initId tlB) (SF : StoreFacts B tlB "object.__setattr__" "object") (T : E2 X.K X.mg x C fI tlB newId) (hr : Room 0 X.A) (hg : Gl X x) (ha : PA X (e :: [f]) ta)
    (hdb : (x == ("__debug__" : Str)) = false := by decide) (hs : starEach (e :: [f]) X.env = (false, eval e X.env) :: starEach [f] X.env := by rfl) (hpl : (backTo pos (starEach [f] X.env)).any (·.1) = false := by rfl) :
    PE X (.Call (.Name x p) [e, f] [] pos) (tE2 C ta) := by
  refine ⟨fun pins s σ H Q I h => ?_⟩
  refine wpAny_Call_Name_kw (ld_glob I hg T.gC ?_ hdb)
  refine PySem.W.callWith_K (h₀ := X.base) I.ok.mod.kin T.kC (thn (ha.run pos pins s σ H _ I h) fun us s1 hh => ?_) hs hpl
  obtain ⟨vs, H1, I1, r1, v, y, rfl, q1⟩ := hh
  refine ⟨I1.kIn, ?_⟩
  obtain ⟨u, z, rfl, ru, rz⟩ := vals2 r1
  show wpAny _ _ (call (.ref C) [u, z]) _ _ _
  refine wpAny_call (made2 F T SF (.inl ⟨rfl, rfl⟩) I1.kIn I1.nolimit (by have := hr.dp; omega) fun h' tk' a d M => ?_)
  exact ⟨.ref a, _, made2_inv I1 ru rz M, rfl, q1 d a (I1.hok.fresh M.dbig) (I1.hok.fresh M.new) M.dne⟩
theorem pe_e2k {ta : TA} (F : ExcBaseFacts B newId initId tlB) (SF : StoreFacts B tlB "object.__setattr__" "object") (T : E2 X.K X.mg x C fI tlB newId) (hr : Room 0 X.A) (hg : Gl X x) (hk : PK X kws ta)
    (hks : (backToKw pos (keywordEach kws X.env)).filterMap (·.1) = [PySem.Str.ofString "word", PySem.Str.ofString "line"] := by rfl) (hall : (backToKw pos (keywordEach kws X.env)).all (·.1.isSome) = true := by rfl) (hdb : (x == ("__debug__" : Str)) = false := by decide)
    (hpl : ((backTo pos (starEach [] X.env)).any (·.1) || (backToKw pos (keywordEach kws X.env)).any (·.1.isNone)) = false := by rfl) :
    PE X (.Call (.Name x p) [] kws pos) (tE2k C ta) := by
  refine ⟨fun pins s σ H Q I h => ?_⟩
  refine wpAny_Call_Name_kw (ld_glob I hg T.gC ?_ hdb)
  refine PySem.W.callWith_KW0 (h₀ := X.base) I.ok.mod.kin T.kC hall ?_ hpl
  refine thn (hk.run pos pins s σ H _ I h) fun ws s2 ⟨vs, H1, I1, r1, v, y, e', q1⟩ => ⟨I1.kIn, ?_⟩
  subst e'
  obtain ⟨z, u, rfl, rz, ru⟩ := vals2 r1
  rw [hks]
  show wpAny _ _ (call (.ref C) [] [(PySem.Str.ofString "word", z), (PySem.Str.ofString "line", u)]) _ _ _
  refine wpAny_call (made2 F T SF (.inr ⟨rfl, rfl⟩) I1.kIn I1.nolimit (by have := hr.dp; omega) fun h' tk' a d M => ?_)
  exact ⟨.ref a, _, made2_inv I1 ru rz M, rfl, q1 d a (I1.hok.fresh M.dbig) (I1.hok.fresh M.new) M.dne⟩
theorem pe_e0 (F : ExcBaseFacts B newId initId tlB) (q : PySem.W.excIn X.K C tlB newId = true) (gC : X.mg x = some (.ref C)) (kC : PySem.W.keepIn X.K (.ref C) = true) (hg : Gl X x) (hdb : (x == ("__debug__" : Str)) = false := by decide) :
    PE X (.Call (.Name x p) [] [] pos) (tE0 C) := by
  refine ⟨fun pins s σ H Q I h => ?_⟩
  refine wpAny_Call_Name_kw (ld_glob I hg gC ?_ hdb)
  refine PySem.W.callWith_K0 I.kIn kC ?_
  show wpAny _ _ (call (.ref C) []) _ _ _
  obtain ⟨bm, N, nA, qA, bsA, hdA, snA, sbA, ab, cl, dd, j0, j1, j2, j3, j5, mN, hC, hN, hni, T⟩ := exc_obj I.kIn q
  refine wpAny_call_exc_subT F T hC hN hni (fun h' a hm => ?_) (by show 0 ≤ sizeLine; rw [sizeLine_eq]; omega)
  have hn : H a = none := I.hok.gone hm.new
  obtain ⟨t, ht, _, _⟩ := hm.there
  exact ⟨.ref a, upd H a (exo a C none), I.laidN hm.keeps hm.new hn (exo_ok ht), rfl, h a hn⟩
end
/-! ### a field read -/
structure EF (K : PySem.W.Frag) (C : Addr) (f : Str) : Prop where
  ga : PySem.W.findIn K (.ref C) "__getattribute__" = some (some (.builtin "BaseException.__getattribute__"))
  gg : PySem.W.findIn K (.ref C) "__getattr__" = some none
  ex : PySem.W.subIn K (.ref C) (.type "BaseException") = some true
  hd : PySem.W.hasDictIn K C = true
  no : PySem.W.findIn K (.ref C) f = some none
theorem E1.ef {K : PySem.W.Frag} {mg : Str → Option Value} {x n : Str} {C fI : Addr} {tlB : List Value} {newId : String} (T : E1 K mg x n C fI tlB newId) : EF K C n := ⟨T.ga, T.gg, T.exC, T.hd, T.nf⟩
def tEf (K : PySem.W.Frag) (te : TE) (f : Str) : TE := fun σ H Q => te σ H fun y H1 => ∃ (a C d : Addr) (fs : List (Str × V)) (v : V), y = .ref a ∧ H1 a = some (exo a C (some d)) ∧ H1 d = some (exd d fs) ∧ EF K C f ∧ fs.lookup f = some v ∧ Q v H1
section
variable {X : Cx} {e : Expr} {te : TE} {pos : Pos} {f : Str}
theorem pe_ef (he : PE X e te) (hb : attributeBase e f X.env (eval e X.env) = eval e X.env := by rfl) : PE X (.Attribute e f pos) (tEf X.K te f) := by
  refine ⟨fun pins s σ H Q I h => ?_⟩
  refine attr_of hb (thn (he.run pins s σ H _ I h) fun u s1 hh => ?_)
  obtain ⟨y, H1, I1, ry, a, C, d, fs, v, rfl, ea, ed, T, l, q⟩ := hh
  obtain rfl : u = Value.ref a := ry
  obtain ⟨t1, ho⟩ := exo_at I1.hok ea
  obtain ⟨mA, hns, rel⟩ := exd_at I1.hok ed
  obtain ⟨od, hod, hl⟩ := lookIn_ns hns
  obtain ⟨z, hz, rz⟩ := RelO.some_of (v := v) (o := mA f) (by rw [← l]; exact rel f)
  have J : PySem.W.InstAt s1.heap a ({ cls := .ref C, dict := some d, data := .fields #[.ref t1, .none, .none, .none, .bool false, .none] } : Obj) C (some od) := ⟨ho, rfl, rfl, hod⟩
  exact HandSPX.exc_get I1.kIn J T.ga T.gg T.ex (PySem.W.findObj_own T.hd T.no rfl (by rw [hl, hz])) (handed_of rz) ⟨v, H1, I1.tok _, rz, q⟩
/-- isinstance(a, c), a an error object -/
def rIsX (K : PySem.W.Frag) : List V → Hp → VK → Prop := fun xs H Q => ∃ (a D : Addr) (d : Option Addr) (c : V) (cv : Value) (b : Bool), xs = [.ref a, c] ∧ H a = some (exo a D d) ∧ (∀ d', d = some d' → ∃ fs, H d' = some (exd d' fs)) ∧ EI K D ∧ ClsV c cv ∧ PySem.W.kitOne K (.ref D) cv = some b ∧ Q (.bl b) H
theorem call_isX : CallR X (.builtin "isinstance") (rIsX X.K) := by
  intro pins s σ H xs us Q I r h
  obtain ⟨a, D, d, c, cv, b, rfl, ho, hd, T, k, e, q⟩ := h
  obtain ⟨u1, u2, rfl, r1, r2⟩ := vals2 r
  have e2 := k.eq r2
  subst e2
  cases (show u1 = Value.ref a from r1)
  obtain ⟨t1, h1⟩ := exo_at I.hok ho
  have J : ∃ ox od, PySem.W.InstAt s.heap a ox D od := by
    cases d with
    | none => exact ⟨_, none, h1, rfl, rfl, trivial⟩
    | some d' =>
      obtain ⟨fs, e'⟩ := hd d' rfl
      obtain ⟨mA, hns, _⟩ := exd_at I.hok e'
      obtain ⟨od, hod, _⟩ := lookIn_ns hns
      exact ⟨_, some od, h1, rfl, rfl, hod⟩
  exact PySem.W.kia_one T.kit I.kIn J e (fun z => nomatch z) fun tk => ⟨.bl b, H, I.tok tk, rfl, q⟩
end
end XO
set_option maxRecDepth 100000
set_option maxHeartbeats 4000000
namespace XO
open PySem PySem.Spec PyProof.Rows L2
/-! ### data that repr shows: as in Dp, and dicts of one text key -/
mutual
inductive RD (H : Hp) : V → PyData → Prop
  | non : RD H .non .none
  | bl (b : Bool) : RD H (.bl b) (.bool b)
  | int (i : Int) : RD H (.int i) (.int i)
  | str (x : Str) : RD H (.str x) (.str x)
  | lst {a : Addr} {xs : List V} {ds : List PyData} : H a = some (.lst xs) → a ≠ sysModules → RDs H xs ds → RD H (.ref a) (.list ds)
  | tup {a : Addr} {xs : List V} {ds : List PyData} : H a = some (.tup xs) → RDs H xs ds → RD H (.ref a) (.tuple ds)
  | dic {a : Addr} {x : Str} {i : Int} : H a = some (.dK [(Sum.inr x, .int i)]) → RD H (.ref a) (.dict [(.str x, .int i)])
inductive RDs (H : Hp) : List V → List PyData → Prop
  | nil : RDs H [] []
  | cons {v : V} {vs : List V} {d : PyData} {ds : List PyData} : RD H v d → RDs H vs ds → RDs H (v :: vs) (d :: ds)
end
section
variable {X : Cx} {pins : List (Addr × Obj)} {σ : L2.St} {H : Hp} {s : Shared}
mutual
theorem RD.reads (I : Inv X pins σ H s) : ∀ (d : PyData) (v : V) (u : Value), RD H v d → RelV v u → ∃ as, Reads s.heap u d as ∧ sysModules ∉ as
  | .none, _, _, h, r => by
    cases h
    cases r
    exact ⟨_, Reads.none, by simp⟩
  | .bool b, _, _, h, r => by
    cases h
    cases r
    exact ⟨_, Reads.bool b, by simp⟩
  | .int i, _, _, h, r => by
    cases h
    obtain ⟨t, rfl⟩ := r
    exact ⟨_, Reads.int i t, by simp⟩
  | .str x, _, _, h, r => by
    cases h
    obtain ⟨t, rfl⟩ := r
    exact ⟨_, Reads.str x t, by simp⟩
  | .list ds, _, _, h, r => by
    cases h with
    | lst hs hn ha =>
      cases r
      obtain ⟨_, its, n, rv, e⟩ := I.hok _ _ hs
      obtain ⟨as, hr, hm⟩ := RD.readsAll I ds _ its ha rv
      exact ⟨_, Reads.list e rfl rfl hr, by
        intro z
        rcases List.mem_cons.mp z with z | z
        · exact hn z.symm
        · exact hm z⟩
  | .tuple ds, _, _, h, r => by
    cases h with
    | tup hs ha =>
      cases r
      obtain ⟨_, its, rv, o, h1, h2, n, h3⟩ := (show ObjOk X.prog X.w H s.heap _ (.tup _) from I.hok _ _ hs)
      obtain ⟨as, hr, hm⟩ := RD.readsAll I ds _ its ha rv
      exact ⟨_, Reads.tuple h1 h2 h3 hr, hm⟩
  | .dict kvs, _, _, h, r => by
    cases h with
    | @dic a0 x i hs =>
      cases r
      obtain ⟨hz, hn, vs, kv, o, es, ep, h1, hx, h3, hk, pr, nd⟩ := (show ObjOk X.prog X.w H s.heap _ (.dK _) from I.hok _ _ hs)
      cases kv with
      | @cons p0 b l0 r0 k1 k2 =>
        cases k2
        obtain ⟨e1, e2⟩ := k1
        obtain ⟨k, v⟩ := b
        dsimp only at e1 e2
        subst e1
        obtain ⟨t', rfl⟩ := e2
        generalize hl : es.toList = l at pr
        cases pr with
        | @cons en kv0 es0 kvs0 p1 p2 p3 =>
          cases p3
          obtain ⟨t, e3⟩ : ∃ t, en.key = Value.str x t := by
            rcases keyIs_shape (show keyIs (Sum.inr x) en.key = true from p1) with ⟨j, t, z, _⟩ | ⟨y, t, z, w⟩
            · cases z
            · cases z
              exact ⟨t, w⟩
          dsimp only at p2
          refine ⟨_, Reads.dict (kvs := [(.str x, .int i)]) h1 hx.1 h3 (as := []) (bs := []) ?_ ?_, ?_⟩
          · rw [hl]
            show ReadsAll s.heap [en.key] [PyData.str x] []
            rw [e3]
            exact ReadsAll.cons (Reads.str x t) ReadsAll.nil
          · rw [hl]
            show ReadsAll s.heap [en.val] [PyData.int i] []
            rw [p2]
            exact ReadsAll.cons (Reads.int i t') ReadsAll.nil
          · intro z
            rcases List.mem_cons.mp z with z | z
            · rw [← z] at hn
              exact absurd hn (by decide)
            · simp at z
theorem RD.readsAll (I : Inv X pins σ H s) : ∀ (ds : List PyData) (vs : List V) (us : List Value), RDs H vs ds → Vals vs us → ∃ as, ReadsAll s.heap us ds as ∧ sysModules ∉ as
  | [], _, _, h, r => by
    cases h
    cases r
    exact ⟨_, ReadsAll.nil, by simp⟩
  | d :: ds, _, _, h, r => by
    cases h with
    | cons h1 h2 =>
      cases r with
      | cons r1 r2 =>
        obtain ⟨as, q1, m1⟩ := RD.reads I d _ _ h1 r1
        obtain ⟨bs, q2, m2⟩ := RD.readsAll I ds _ _ h2 r2
        exact ⟨_, ReadsAll.cons q1 q2, by
          intro z
          rcases List.mem_append.mp z with z | z
          · exact m1 z
          · exact m2 z⟩
end
/-- repr(x) of such data -/
def rRepr : List V → Hp → VK → Prop := fun xs H Q => ∃ (x : V) (d : PyData), xs = [x] ∧ RD H x d ∧ d.showable = true ∧ d.depth ≤ 64 ∧ d.shown.length ≤ sizeLine ∧ Q (.str d.shown) H
end
section
variable {X : Cx}
theorem call_repr (hg : X.A.guards = some []) (hu : X.A.units + 65 < cLine) : CallR X (.builtin "repr") rRepr := by
  intro pins s σ H xs us Q I r h
  obtain ⟨x, d, rfl, hd, hs, h64, hl, q⟩ := h
  obtain ⟨u, rfl, ru⟩ := vals1 r
  obtain ⟨as, rd, hm⟩ := RD.reads I d x u hd ru
  cases hd with
  | non =>
    cases ru
    exact PySem.P.repr_of_none ⟨.str _, H, I.tok _, ⟨_, rfl⟩, q⟩
  | bl b =>
    cases ru
    refine PySem.P.repr_of_bool ⟨.str _, H, I.tok _, ⟨_, rfl⟩, ?_⟩
    cases b <;> exact q
  | int i =>
    obtain ⟨t, rfl⟩ := ru
    exact PySem.P.repr_of_int (of_decide_eq_true hs) ⟨.str _, H, I.tok _, ⟨_, rfl⟩, q⟩
  | str y =>
    obtain ⟨t, rfl⟩ := ru
    exact PySem.P.repr_of_str ⟨.str _, H, I.tok _, ⟨_, rfl⟩, q⟩ hl
  | lst e n hx =>
    cases ru
    refine repr_of_reads' rd hs (fun _ => hm) hg (by omega) (fun _ _ z => z) (fun h' u tk k => ?_) hl
    exact ⟨.str _, H, I.kept (t' := tk) k, ⟨_, rfl⟩, q⟩
  | tup e hx =>
    cases ru
    refine repr_of_reads' rd hs (fun _ => hm) hg (by omega) (fun _ _ z => z) (fun h' u tk k => ?_) hl
    exact ⟨.str _, H, I.kept (t' := tk) k, ⟨_, rfl⟩, q⟩
  | dic e =>
    cases ru
    refine repr_of_reads' rd hs (fun _ => hm) hg (by omega) (fun _ _ z => z) (fun h' u tk k => ?_) hl
    exact ⟨.str _, H, I.kept (t' := tk) k, ⟨_, rfl⟩, q⟩
end
section
variable {X : Cx} {es : List Expr} {t : TA} {pos : Pos}
/-- [..], and that the list is not sys.modules -/
def tLstN (t : TA) : TE := fun σ H Q => t σ H fun xs H1 => xs.length ≤ sizeLine ∧ ∀ p, H1 p = none → p ≠ sysModules → Q (.ref p) (upd H1 p (.lst xs))
theorem pe_lstN (h : PA X es t) : PE X (.List es pos) (tLstN t) := by
  refine ⟨fun pins s σ H Q I hq => ?_⟩
  refine wpAny_List_spliced (thn (h.run pos pins s σ H _ I hq) fun us s1 w => ?_)
  obtain ⟨xs, H1, I1, r, z, q⟩ := w
  refine ⟨by rw [← r.length]; exact z, ?_⟩
  exact ⟨.ref s1.heap.objs.size, _, I1.lnew (t' := s1.toks) r z, rfl, q _ I1.fresh (Nat.ne_of_gt I1.big)⟩
def rCatN : R2 := fun x y H Q => ∃ l b xs zs, x = .ref l ∧ y = .ref b ∧ H l = some (.lst xs) ∧ H b = some (.lst zs) ∧ xs.length + zs.length ≤ sizeLine ∧ ∀ p, H p = none → p ≠ sysModules → Q (.ref p) (upd H p (.lst (xs ++ zs)))
theorem op_catN : OpR X (binaryOp .Add) rCatN := by
  intro pins s σ H x y v u Q I rx ry h
  obtain ⟨l, b, xs, zs, rfl, rfl, hx, hy, hz, q⟩ := h
  cases rx
  cases ry
  obtain ⟨_, us, n, r, e0, e⟩ := I.lstM hx
  obtain ⟨_, ws, m, r', f0, f⟩ := I.lstM hy
  refine PySem.P.add_list e f ?_ (by rw [List.size_toArray, List.size_toArray, ← e0, ← f0]; exact hz)
  rw [show us.toArray ++ ws.toArray = (us ++ ws).toArray by simp]
  exact ⟨.ref _, _, I.lnew (t' := s.toks) (r.append r') (by rw [List.length_append]; exact hz), rfl, q _ I.fresh (Nat.ne_of_gt I.big)⟩
def rRepN : R2 := fun x y H Q => ∃ l xs k, x = .ref l ∧ y = .int k ∧ H l = some (.lst xs) ∧ 0 ≤ k ∧ k < 1000 ∧ xs.length ≤ 1000 ∧ ∀ p, H p = none → p ≠ sysModules → Q (.ref p) (upd H p (.lst (List.replicate k.toNat xs).flatten))
theorem op_repN : OpR X (binaryOp .Mult) rRepN := by
  intro pins s σ H x y v u Q I rx ry h
  obtain ⟨l, xs, k, rfl, rfl, hx, k0, k1, hl, q⟩ := h
  cases rx
  obtain ⟨t, rfl⟩ := ry
  obtain ⟨_, us, n, r, e0, e⟩ := I.lstM hx
  have sz : us.toArray.size * k.toNat ≤ 1000 * 1000 := by
    rw [List.size_toArray, ← e0]
    exact Nat.mul_le_mul hl (by omega)
  have sl : us.toArray.size * k.toNat ≤ sizeLine := Nat.le_trans sz (by decide)
  have c1 : ¬ us.toArray.size * k.toNat > (2 ^ 63 - 1) / 8 := by
    have : 1000 * 1000 ≤ (2 ^ 63 - 1) / 8 := by decide
    omega
  have c2 : ¬ (!Builtin.List.listFitsIndex k) = true := by
    rw [fitsIndex_both (by omega) (by omega)]
    exact Bool.false_ne_true
  have c3 : ¬ Builtin.List.listTooLong (us.toArray.size * k.toNat) = true := by
    rw [notLongL sl]
    exact Bool.false_ne_true
  have made : List.foldl (fun x1 x2 => x1 ++ x2) #[] (List.replicate (if us.toArray.isEmpty = true then 0 else k.toNat) us.toArray) = (List.replicate k.toNat us).flatten.toArray := by
    have f0 : ∀ m : Nat, List.foldl (fun x1 x2 => x1 ++ x2) #[] (List.replicate m us.toArray) = (List.replicate m us).flatten.toArray := fun m => by
      have z := foldl_rep us m []
      rw [List.nil_append] at z
      exact z
    rw [f0]
    cases us with
    | nil => simp
    | cons a r' => rw [if_neg (by simp)]
  refine wpAny_binaryOp_repeat_ref (T := "list") (U := "int") (by decide) ⟨_, e, rfl⟩ (fun s' => typeIs_int s' k t) noFill_list_mul F.fills_int_mul
    F.slot_int_rmul repeat_list F.slot_int_index.lookup (call_meets F.slot_int_rmul (typeIs_int s k t) F.entry_int_rmul (F.args_int_rmul_2 _ _)
      (int___rmul___int_list k t l us.toArray n) ⟨e, rfl, ⟨_, e, rfl⟩, call_meets F.slot_list_mul ⟨_, e, rfl⟩ F.entry_list_mul (F.args_list_mul_2 _ _)
        (AutoListH.list___mul___list_int_3 l us.toArray n k t c2 c1 c3) ⟨e, ?_⟩⟩)
  rw [made]
  exact ⟨.ref _, _, I.lnew (t' := s.toks) (r.rep k.toNat) (by rw [PyProof.Rows.lm_len_rep_flat, Nat.mul_comm, r.length, ← List.size_toArray]; exact sl), rfl, q _ I.fresh (Nat.ne_of_gt I.big)⟩
end
end XO
set_option maxRecDepth 100000
set_option maxHeartbeats 4000000
/-! The law's own def, entered from its caller alone: there nothing is being shown (repr asks that). -/
namespace XO
open PySem PySem.Spec PyProof.Rows L2
/-- a def entered at one place A, by its body -/
theorem run_at {P : Program} {w : World} {K : PySem.W.Frag} {mg : Str → Option Value} {base : Heap} {k : Nat} {f : Addr} {x0 qn : Str} {pr : Arguments} {bd : List Stmt} {sc : Scope} {dV kV doc pm cdv ct oc : Value} {an od : Option Addr} {sl : Array (Option Value)} {N ps : List Str}
    (lk : K.lookup f = some ⟨oc, od, .func (PySem.W.fnOf x0 qn pr bd sc dV kV doc pm an cdv ct), sl⟩) (hcd : PySem.W.codeIn K cdv qn = true) (S : FnScope N ps sc) {A : Around} {outer : List Env} {s : Shared} {H : Hp} {args : Args} {us : List Value} {vs : List V} {Q : VK} {E : XK}
    (hr : Room (k + 1) A) (e0 : Env0 P w K mg base A outer s H) (hb : BindsTo s (PySem.W.fnOf x0 qn pr bd sc dV kV doc pm an cdv ct) args (ps.zip us)) (r : Vals vs us) (hl : vs.length = ps.length)
    (body : Room k (A.deeper (envOfC qn sc s.heap.objs.size f cdv)) → ∃ t, PSs (cxOf CX0 P w K mg base N qn sc f cdv A outer s H E).nox bd t ∧ t { nx := fun _ H' => Q .non H', rt := Q } (start N vs) H) :
    codeAny (model P w) A (.call (.ref f) args) (CR CX0 outer P w H s Q E) s := by
  have X0 : K.In s.heap := e0.mod.kin.keeps fun b o e => (e0.bs b o e).1
  have lim : s.heap.NoLimit := e0.mod.nolimit.keeps fun b o e => (e0.bs b o e).1
  refine codeAny_call_function hr.depth (X0 _ _ lk) rfl S.co S.gen rfl (PySem.W.codeRec_of X0 hcd) (hb _ _ _ _ ?_)
  refine wpAny_newFunctionEnv_cells S.kind (fun z hz => ?_) fun env he s1 y => ?_
  · rcases S.par z.1 (List.of_mem_zip (show (z.1, z.2) ∈ ps.zip us from hz)).1 with c | c
    · exact .inl c
    · exact .inr ⟨c, PySem.W.cellsFrom_some _ _ _ (.inl c)⟩
  · subst he
    obtain ⟨t, ht, hq⟩ := body (hr.deeper _)
    refine ⟨lim.keeps y.toInCall.keep, codeAny_func ?_⟩
    have I := inv_start (CX := CX0) (E := E) S hr.hd e0 hl r y
    refine wpAny_mono (ht.nox.run [] s1 (start N vs) H _ I hq) (fun fl s' hs => ?_) fun e s' hs => hs
    cases fl with
    | ret u =>
      obtain ⟨v, σ', H', J, rv, q⟩ := hs
      exact ⟨v, H', J.os, J.bare, J.base, J.hok, rv, q⟩
    | next =>
      obtain ⟨σ', H', J, q⟩ := hs
      exact ⟨V.non, H', J.os, J.bare, J.base, J.hok, rfl, q⟩
    | brk =>
      obtain ⟨_, _, _, q⟩ := hs
      exact q.elim
    | cont =>
      obtain ⟨_, _, _, q⟩ := hs
      exact q.elim
/-! ### the start: which abstract heap the script stands in -/
section
variable {P : Program} {w : World} {K : PySem.W.Frag} {mg mb : Str → Option Value} {f a : Addr} {s₁ s' : Shared} {vs : List Value} {ns : List Int} {H H' : Hp} {CX : CXT}
/-- H tracks at most the script at a, known to its object -/
structure Starts (P : Program) (w : World) (K : PySem.W.Frag) (a : Addr) (ns : List Int) (s₁ : Shared) (H : Hp) : Prop where
  only : Only H
  sq : SqL K H a (ns.map V.int)
  ok : HOk P w H s₁.heap
  at_ : ∀ b u, H b = some u → b = a ∧ K.lookup a = none
theorem starts_ex (X0 : K.In s₁.heap) (ha : s₁.heap.get? a = some { cls := .type "list", data := .seq vs.toArray }) (hi : IntsAre vs ns) (hl : ns.length ≤ sizeLine) : ∃ H, Starts P w K a ns s₁ H := by
  have vi := vals_ints hi
  match hk : K.lookup a with
  | some o =>
    cases ha.symm.trans (X0 a o hk)
    exact ⟨fun _ => none, fun _ => .inl rfl, .inr ⟨_, _, _, hk, rfl, rfl, rfl, by rw [List.size_toArray, hi.length]; exact hl, by simpa using vi⟩, nofun, nofun⟩
  | none =>
    let it : HO := .frz { cls := .type "list", data := .seq vs.toArray } (.lst (ns.map V.int))
    have here : ∀ b u, (fun b => if b = a then some it else none) b = some u → b = a ∧ u = it := fun b u z => by
      by_cases hb : b = a
      · exact ⟨hb, (Option.some.inj ((if_pos hb).symm.trans z)).symm⟩
      · exact nomatch (if_neg hb).symm.trans z
    refine ⟨fun b => if b = a then some it else none, fun b => ?_, .inl (.inr ⟨_, if_pos rfl⟩), fun b u z => ?_, fun b u z => ⟨(here b u z).1, hk⟩⟩
    · cases e : (fun b => if b = a then some it else none) b with
      | none => exact .inl e
      | some u => exact .inr ⟨_, _, e.trans (congrArg some (here b u e).2)⟩
    · obtain ⟨rfl, rfl⟩ := here b u z
      exact ⟨ha, (by rw [List.length_map]; exact hl), vs, _, vi, ha⟩
theorem Starts.none_of (S : Starts P w K a ns s₁ H) {b : Addr} (h : b = a → K.lookup a = none → False) : H b = none :=
  Option.eq_none_iff_forall_ne_some.mpr fun u z => h (S.at_ b u z).1 (S.at_ b u z).2
theorem Starts.env (S : Starts P w K a ns s₁ H) (X0 : K.In s₁.heap) (G : s₁.heap.Ns mainGlobals mg) (Gb : s₁.heap.Ns builtinsNs mb) (bb : ∀ x : Str, x ≠ "__name__" → mb x = bootBuiltins x) (lim : s₁.heap.NoLimit) (g0 : s₁.gens = #[])
    (ha : s₁.heap.get? a = some { cls := .type "list", data := .seq vs.toArray }) : K.In (hidT s₁.heap H) ∧ (hidT s₁.heap H).Ns mainGlobals mg ∧ Env0 P w K mg (hidT s₁.heap H) callerA [] s₁ H := by
  have names : ∀ {b : Addr} {m : Str → Option Value}, s₁.heap.Ns b m → (hidT s₁.heap H).Ns b m := fun ⟨o, es, ep, e, d, z⟩ => by
    refine ⟨o, es, ep, hidT_get e (S.none_of fun q _ => ?_), d, z⟩
    cases (q ▸ e).symm.trans ha
    exact nomatch (show Data.seq vs.toArray _ = Data.dict es ep from d)
  have own : K.In (hidT s₁.heap H) := fun b o e => hidT_get (X0 b o e) (S.none_of fun q n => nomatch (q ▸ e : K.lookup a = some o).symm.trans n)
  obtain ⟨mc, l1, l2⟩ := lim
  exact ⟨own, names G, rfl, ⟨own, names G, ⟨mb, names Gb, bb⟩, mc, names l1, l2⟩, fun _ _ => of_hidT, Nat.le_of_eq (hidT_size _ _), trivial, nofun, S.ok, .of_eq g0⟩
/-- what stood at the start stands at the end -/
theorem Starts.stays (S : Starts P w K a ns s₁ H) (un : Un (frs []) [] H H' s₁.heap s'.heap) (ok : HOk P w H' s'.heap) : OldK s₁.heap s'.heap := OldK.of_keep fun b o e => by
  match q : H b with
  | none => exact un.keep b o e q nofun nofun
  | some u =>
    obtain ⟨ob, xs, y⟩ := (S.only b).resolve_left (by rw [q]; nofun)
    cases e.symm.trans (S.ok b _ y).1
    exact (ok b _ (un.frzs b _ _ y)).1
/-- the law's call: the def at f gives True from wherever the script's list stands -/
theorem law_atC (X0 : K.In s₁.heap) (G : s₁.heap.Ns mainGlobals mg) (Gb : s₁.heap.Ns builtinsNs mb) (bb : ∀ x : Str, x ≠ "__name__" → mb x = bootBuiltins x) (lim : s₁.heap.NoLimit) (g0 : s₁.gens = #[])
    (ha : s₁.heap.get? a = some { cls := .type "list", data := .seq vs.toArray }) (hi : IntsAre vs ns) (hl : ns.length ≤ sizeLine) (hCX : ∀ H e s', CX [] H s₁ (fun _ _ _ => False) e s' → False)
    (F : ∀ (base : Heap) (H : Hp), K.In base → base.Ns mainGlobals mg → Env0 P w K mg base callerA [] s₁ H → Only H → SqL K H a (ns.map V.int) →
      codeAny (model P w) callerA (.call (.ref f) ⟨[.ref a], []⟩) (CR CX [] P w H s₁ (fun v _ => v = .bl true) fun _ _ _ => False) s₁) :
    codeAny (model P w) callerA (.call (.ref f) ⟨[.ref a], []⟩) (fun r s' => r = .ok (.ret (.bool true)) ∧ OldK s₁.heap s'.heap ∧ s'.os = s₁.os ∧ AllBare s'.gens) s₁ := by
  obtain ⟨H, S⟩ := starts_ex (P := P) (w := w) X0 ha hi hl
  obtain ⟨k, g, e0⟩ := S.env X0 G Gb bb lim g0 ha
  refine codeAny_mono (F _ H k g e0 S.only S.sq) ?_
  rintro (e | fl) s' z
  · exact (hCX H e s' z).elim
  · cases fl with
    | ret u =>
      obtain ⟨_, H', os, bare, un, ok, ru, rfl⟩ := z
      exact ⟨congrArg (fun v => Except.ok (Flow.ret v)) ru, S.stays un ok, os, bare⟩
    | _ => exact False.elim z
theorem law_at (X0 : K.In s₁.heap) (G : s₁.heap.Ns mainGlobals mg) (Gb : s₁.heap.Ns builtinsNs mb) (bb : ∀ x : Str, x ≠ "__name__" → mb x = bootBuiltins x) (lim : s₁.heap.NoLimit) (g0 : s₁.gens = #[])
    (ha : s₁.heap.get? a = some { cls := .type "list", data := .seq vs.toArray }) (hi : IntsAre vs ns) (hl : ns.length ≤ sizeLine)
    (F : ∀ (base : Heap) (H : Hp), K.In base → base.Ns mainGlobals mg → Env0 P w K mg base callerA [] s₁ H → Only H → SqL K H a (ns.map V.int) →
      codeAny (model P w) callerA (.call (.ref f) ⟨[.ref a], []⟩) (CR CX0 [] P w H s₁ (fun v _ => v = .bl true) fun _ _ _ => False) s₁) :
    codeAny (model P w) callerA (.call (.ref f) ⟨[.ref a], []⟩) (fun r s' => r = .ok (.ret (.bool true)) ∧ OldK s₁.heap s'.heap ∧ s'.os = s₁.os ∧ AllBare s'.gens) s₁ := law_atC (CX := CX0) X0 G Gb bb lim g0 ha hi hl (fun _ _ _ z => z) F
end
end XO
set_option maxRecDepth 100000
set_option maxHeartbeats 4000000
/-! What an expression gives, where all that is known stays known: Grow, Stb, EvP. -/
namespace LP
open PySem PySem.Spec PyProof.Rows L2
abbrev Grow (H H' : Hp) : Prop := ∀ b o, H b = some o → H' b = some o
theorem grow_rfl {H : Hp} : Grow H H := fun _ _ h => h
theorem Grow.tr {H H1 H2 : Hp} (a : Grow H H1) (b : Grow H1 H2) : Grow H H2 := fun c o h => b c o (a c o h)
theorem grow_new {H : Hp} {p : Addr} {o : HO} (h : H p = none) : Grow H (upd H p o) := fun a u e => by
  rw [upd_ne (ne_of_none e h)]
  exact e
abbrev PV := V → Hp → Prop
def Stb (P : PV) : Prop := ∀ v H H', Grow H H' → P v H → P v H'
def EvP (te : TE) (σ : L2.St) (H : Hp) (P : PV) : Prop := ∀ H1, Grow H H1 → ∀ Q : VK, (∀ v H2, Grow H1 H2 → P v H2 → Q v H2) → te σ H1 Q
def AllP : List PV → List V → Hp → Prop
  | [], [], _ => True
  | P :: Ps, v :: vs, H => P v H ∧ AllP Ps vs H
  | _, _, _ => False
def StbA : List PV → Prop
  | [] => True
  | P :: Ps => Stb P ∧ StbA Ps
theorem AllP.grow : ∀ {Ps : List PV} {vs : List V} {H H' : Hp}, StbA Ps → Grow H H' → AllP Ps vs H → AllP Ps vs H'
  | [], [], _, _, _, _, _ => trivial
  | _ :: _, _ :: _, _, _, ⟨s, t⟩, g, ⟨a, b⟩ => ⟨s _ _ _ g a, AllP.grow t g b⟩
theorem AllP.len : ∀ {Ps : List PV} {vs : List V} {H : Hp}, AllP Ps vs H → vs.length = Ps.length
  | [], [], _, _ => rfl
  | _ :: _, _ :: _, _, ⟨_, b⟩ => congrArg Nat.succ (AllP.len b)
theorem AllP.app : ∀ {Ps Qs : List PV} {vs ws : List V} {H : Hp}, AllP Ps vs H → AllP Qs ws H → AllP (Ps ++ Qs) (vs ++ ws) H
  | [], _, [], _, _, _, b => b
  | _ :: _, _, _ :: _, _, _, ⟨x, y⟩, b => ⟨x, AllP.app y b⟩
theorem AllP.at : ∀ {Ps : List PV} {vs : List V} {H : Hp} {i : Nat} {P : PV}, AllP Ps vs H → Ps[i]? = some P → ∃ v, vs[i]? = some v ∧ P v H
  | _ :: _, v :: _, _, 0, _, ⟨x, _⟩, e => by
    cases e
    exact ⟨v, rfl, x⟩
  | _ :: Ps, _ :: vs, _, i + 1, P, ⟨_, y⟩, e => AllP.at (i := i) y e
theorem StbA.app : ∀ {Ps Qs : List PV}, StbA Ps → StbA Qs → StbA (Ps ++ Qs)
  | [], _, _, b => b
  | _ :: _, _, ⟨x, y⟩, b => ⟨x, StbA.app y b⟩
def EvPs (ta : TA) (σ : L2.St) (H : Hp) (Ps : List PV) : Prop := ∀ H1, Grow H H1 → ∀ Q : List V → Hp → Prop, (∀ vs H2, Grow H1 H2 → AllP Ps vs H2 → Q vs H2) → ta σ H1 Q
/-- a list (a tuple) of such values, not sys.modules where that is asked -/
def LstP (Ps : List PV) : PV := fun v H => ∃ (p : Addr) (xs : List V), v = .ref p ∧ H p = some (.lst xs) ∧ AllP Ps xs H
def LstN (Ps : List PV) : PV := fun v H => ∃ (p : Addr) (xs : List V), v = .ref p ∧ p ≠ sysModules ∧ H p = some (.lst xs) ∧ AllP Ps xs H
def IsP (v : V) : PV := fun u _ => u = v
theorem stb_is {v : V} : Stb (IsP v) := fun _ _ _ _ h => h
theorem stb_lst {Ps : List PV} (s : StbA Ps) : Stb (LstP Ps) := fun _ _ _ g ⟨p, xs, e, h, a⟩ => ⟨p, xs, e, g _ _ h, a.grow s g⟩
theorem stb_lstN {Ps : List PV} (s : StbA Ps) : Stb (LstN Ps) := fun _ _ _ g ⟨p, xs, e, n, h, a⟩ => ⟨p, xs, e, n, g _ _ h, a.grow s g⟩
section
variable {K : PySem.W.Frag} {σ : L2.St} {H H' : Hp} {te ta tb : TE} {tl : TA} {P R : PV} {Ps Qs : List PV} {v : V} {i : Nat}
theorem EvP.grow (e : Grow H H') (h : EvP te σ H P) : EvP te σ H' P := fun H1 g Q q => h H1 (e.tr g) Q q
theorem evp_var (h : σ[i]? = some (some v)) (p : P v H) (s : Stb P) : EvP (tVar i) σ H P := fun H1 g Q q => ⟨v, h, q v H1 grow_rfl (s _ _ _ g p)⟩
theorem evp_c : EvP (tC v) σ H (IsP v) := fun H1 _ Q q => q v H1 grow_rfl rfl
theorem EvPs.nil : EvPs tNil σ H [] := fun H1 _ Q q => q [] H1 grow_rfl trivial
theorem EvPs.cons (s : Stb P) (h : EvP te σ H P) (t : EvPs tl σ H Ps) : EvPs (tCons te tl) σ H (P :: Ps) := fun H1 g Q q => h H1 g _ fun x H2 g2 px => t H2 (g.tr g2) _ fun xs H3 g3 pxs => q _ H3 (g2.tr g3) ⟨s _ _ _ g3 px, pxs⟩
theorem evp_lst (n : Ps.length ≤ 1000) (h : EvPs tl σ H Ps) (s : StbA Ps) : EvP (tLst tl) σ H (LstP Ps) := fun H1 g Q q => h H1 g _ fun xs H2 g2 px =>
  ⟨Nat.le_trans (Nat.le_of_eq px.len) (Nat.le_trans n (by decide)), fun p hp => q _ _ (g2.tr (grow_new hp)) ⟨p, xs, rfl, upd_same, px.grow s (grow_new hp)⟩⟩
theorem evp_lstN (n : Ps.length ≤ 1000) (h : EvPs tl σ H Ps) (s : StbA Ps) : EvP (XO.tLstN tl) σ H (LstN Ps) := fun H1 g Q q => h H1 g _ fun xs H2 g2 px =>
  ⟨Nat.le_trans (Nat.le_of_eq px.len) (Nat.le_trans n (by decide)), fun p hp np => q _ _ (g2.tr (grow_new hp)) ⟨p, xs, rfl, np, upd_same, px.grow s (grow_new hp)⟩⟩
theorem evp_cat (n : Ps.length + Qs.length ≤ 1000) (h : EvP ta σ H (LstP Ps)) (t : EvP tb σ H (LstP Qs)) (s : StbA Ps) (s' : StbA Qs) : EvP (tOp rCat ta tb) σ H (LstP (Ps ++ Qs)) := fun H1 g Q q =>
  h H1 g _ fun x H2 g2 ⟨p, xs, ex, hp, ap⟩ => t H2 (g.tr g2) _ fun y H3 g3 ⟨p', ys, ey, hp', ap'⟩ => by
    subst ex ey
    refine ⟨p, p', xs, ys, rfl, rfl, g3 _ _ hp, hp', ?_, fun z hz => q _ _ ((g2.tr g3).tr (grow_new hz)) ⟨z, _, rfl, upd_same, ((ap.grow s g3).app ap').grow (s.app s') (grow_new hz)⟩⟩
    rw [ap.len, ap'.len]
    exact Nat.le_trans n (by decide)
theorem evp_catN (n : Ps.length + Qs.length ≤ 1000) (h : EvP ta σ H (LstP Ps)) (t : EvP tb σ H (LstP Qs)) (s : StbA Ps) (s' : StbA Qs) : EvP (tOp XO.rCatN ta tb) σ H (LstN (Ps ++ Qs)) := fun H1 g Q q =>
  h H1 g _ fun x H2 g2 ⟨p, xs, ex, hp, ap⟩ => t H2 (g.tr g2) _ fun y H3 g3 ⟨p', ys, ey, hp', ap'⟩ => by
    subst ex ey
    refine ⟨p, p', xs, ys, rfl, rfl, g3 _ _ hp, hp', ?_, fun z hz nz => q _ _ ((g2.tr g3).tr (grow_new hz)) ⟨z, _, rfl, nz, upd_same, ((ap.grow s g3).app ap').grow (s.app s') (grow_new hz)⟩⟩
    rw [ap.len, ap'.len]
    exact Nat.le_trans n (by decide)
theorem LstN.lst (v : V) (H : Hp) (h : LstN Ps v H) : LstP Ps v H := by
  obtain ⟨p, xs, e, _, r⟩ := h
  exact ⟨p, xs, e, r⟩
theorem EvP.imp (m : ∀ v H, P v H → R v H) (h : EvP te σ H P) : EvP te σ H R := fun H1 g Q q => h H1 g Q fun v H2 g2 p => q v H2 g2 (m v H2 p)
/-- an item of a list at a written place -/
theorem evp_ix {k : Int} {j : Nat} (h : EvP ta σ H (LstP Ps)) (e : k = (j : Int)) (hj : Ps[j]? = some P) : EvP (tOp (rIxL K) ta (tC (.int k))) σ H P := fun H1 g Q q =>
  h H1 g _ fun x H2 g2 ⟨p, xs, ex, hp, ap⟩ => by
    subst ex
    obtain ⟨v, hv, pv⟩ := ap.at hj
    exact ⟨p, xs, k, v, rfl, rfl, SqL.of hp, by rw [e]; exact atI_nat hv, q v H2 g2 pv⟩
theorem st_setP {D : Ends} (h : EvP te σ H P) (q : ∀ v H', Grow H H' → P v H' → D.nx (σ.set i (some v)) H') : tAsg te (gName i) D σ H := h H grow_rfl _ fun v H2 g p => q v H2 g p
theorem sq_set {D : Ends} {u : TS} (h : EvP te σ H P) (q : ∀ v H', Grow H H' → P v H' → u D (σ.set i (some v)) H') : tSeq (tAsg te (gName i)) u D σ H := h H grow_rfl _ fun v H2 g p => q v H2 g p
theorem st_retP {D : Ends} (h : EvP te σ H P) (q : ∀ v H', Grow H H' → P v H' → D.rt v H') : tRet te D σ H := h H grow_rfl _ fun v H2 g p => q v H2 g p
end
end LP
set_option maxRecDepth 100000
set_option maxHeartbeats 4000000
/-! Operators that an own class defines, and the truth of its instances, over the hand layer. -/
namespace RX
open PySem PySem.Spec PyProof.Rows L2
theorem back {v : V} {u : Value} {Q : Value → Shared → Prop} {s : Shared} (r : RelV v u) (q : Q u s) : PySem.W.CmpBack Q u s := by
  cases v with
  | non => cases r; exact q
  | bl b => cases r; exact q
  | int i => obtain ⟨t, rfl⟩ := r; exact q
  | str x => obtain ⟨t, rfl⟩ := r; exact q
  | byt x => obtain ⟨t, rfl⟩ := r; exact q
  | flt x => obtain ⟨t, rfl⟩ := r; exact q
  | ref a => cases r; exact q
  | ty n => cases r; exact q
/-- a special method that the class at C has of its own -/
structure Own (K : PySem.W.Frag) (C f : Addr) (name : Str) : Prop where
  at_ : PySem.W.findIn K (.ref C) name = some (some (.ref f))
  fn : PySem.W.isFn K (.ref f) = true
section
variable {X : Cx} {CX : CXT} {k : Nat} {f C : Addr} {fd : FuncData} {ps : List Str} {sp : Sp} {E : XK} {pins : List (Addr × Obj)} {σ : L2.St} {H : Hp} {s : Shared}
theorem inst_at {a dx : Addr} {fs : List (Str × V)} (I : Inv X pins σ H s) (e : H a = some (.ins C dx fs)) : ∃ ox od, PySem.W.InstAt s.heap a ox C (some od) := by
  obtain ⟨mA, J, _⟩ := ins_get I.hok e
  obtain ⟨od, J, _⟩ := J.look
  exact ⟨_, od, J⟩
/-- the callee runs, from an around below the body's -/
theorem run_sub {A : Around} {Q : VK} {us : List Value} {vs : List V} (F : FnOk X.prog X.w X.K X.mg X.base CX k f fd ps sp) (hr : Room k A) (fr : A.frames = X.A.frames) (hb : Binds X.K fd ps []) (hx : Passes CX X E)
    (I : Inv X pins σ H s) (r : Vals vs us) (h : sp vs H Q E) : wpAny (model X.prog X.w) A (call (.ref f) us) (EP X pins σ Q) X.xe s := by
  have e0 : Env0 X.prog X.w X.K X.mg X.base A X.stack s H := by
    have e := I.env0
    exact ⟨by rw [fr]; exact e.frames, e.mod, e.bs, e.bsz, e.funs, e.frf, e.hok, e.bare⟩
  have hl : us.length = ps.length := by rw [← r.length]; exact F.len _ _ _ _ h
  refine wpAny_call (codeAny_mono (F.run A X.stack s H ⟨us, []⟩ us vs Q E hr e0 (by
    have := hb s us I.kIn (by simpa using hl)
    simpa using this) r h) fun r s' hq => ?_)
  cases r with
  | error e => exact hx pins σ H s e s' I hq
  | ok fl =>
    cases fl with
    | ret u => exact I.after hq
    | next => exact False.elim hq
    | brk => exact False.elim hq
    | cont => exact False.elim hq
/-- x op y, both of the class at C, by its own def -/
def rOwn (C : Addr) (sp : Sp) (E : XK) : R2 := fun x y H Q => ∃ a dx fs b dy gs, x = .ref a ∧ y = .ref b ∧ H a = some (.ins C dx fs) ∧ H b = some (.ins C dy gs) ∧ sp [.ref a, .ref b] H Q E
theorem op_own {op : Operator} (F : FnOk X.prog X.w X.K X.mg X.base CX k f fd ps sp) (hc : PySem.W.selfFirst X.K C = true) (O : Own X.K C f (PySem.dunder op.info.2)) (hr : Room k X.A) (hb : Binds X.K fd ps []) (hx : Passes CX X E) : OpR X (binaryOp op) (rOwn C sp E) := by
  intro pins s σ H x y v u Q I rx ry h
  obtain ⟨a, dx, fs, b, dy, gs, rfl, rfl, ea, eb, q⟩ := h
  cases rx
  cases ry
  obtain ⟨_, _, J⟩ := inst_at I ea
  obtain ⟨_, _, J'⟩ := inst_at I eb
  obtain ⟨m, hF⟩ := I.fr
  refine PySem.W.binop_K hF I.ok.mod.kin J J'.type hc O.at_ O.fn ?_
  refine wpAny_mono (run_sub (vs := [.ref a, .ref b]) F hr rfl hb hx I (.cons rfl (.cons rfl .nil)) q) (fun r s' z => ?_) fun _ _ z => z
  have z' := z
  obtain ⟨_, _, _, rv, _⟩ := z'
  exact back rv z
/-- -x -/
def rNegO (C : Addr) (sp : Sp) (E : XK) : V → Hp → VK → Prop := fun x H Q => ∃ a dx fs, x = .ref a ∧ H a = some (.ins C dx fs) ∧ sp [.ref a] H Q E
theorem un_own (F : FnOk X.prog X.w X.K X.mg X.base CX k f fd ps sp) (O : Own X.K C f "__neg__") (hr : Room k X.A) (hb : Binds X.K fd ps []) (hx : Passes CX X E) : UnR X (unaryOp .USub) (rNegO C sp E) := by
  intro pins s σ H x v Q I rx h
  obtain ⟨a, dx, fs, rfl, ea, q⟩ := h
  cases rx
  obtain ⟨_, _, J⟩ := inst_at I ea
  obtain ⟨m, hF⟩ := I.fr
  exact PySem.W.ksp_neg hF I.ok.mod.kin J O.at_ O.fn (run_sub (vs := [.ref a]) F hr rfl hb hx I (.cons rfl .nil) q)
/-- what stands at a value's type -/
theorem ty_looks {x : V} {u t : Value} {M : Model} (I : Inv X pins σ H s) (rx : RelV x u) (ty : TyOf X.K H x t) : PySem.W.Looks M s.heap (typeOf u) t := by
  cases ty with
  | non => cases (show u = Value.none from rx); exact PySem.W.Looks.of_pure rfl
  | bl y => cases (show u = Value.bool y from rx); exact PySem.W.Looks.of_pure rfl
  | int i => obtain ⟨t, q⟩ := (show ∃ t, u = Value.int i t from rx); cases q; exact PySem.W.Looks.of_pure rfl
  | str y => obtain ⟨t, q⟩ := (show ∃ t, u = Value.str y t from rx); cases q; exact PySem.W.Looks.of_pure rfl
  | flt y => obtain ⟨t, q⟩ := (show ∃ t, u = Value.float y t from rx); cases q; exact PySem.W.Looks.of_pure rfl
  | @lst a xs ea =>
    cases (show u = Value.ref a from rx)
    obtain ⟨_, _, n, _, h1⟩ := (show ObjOk X.prog X.w H s.heap a (.lst xs) from I.hok a _ ea)
    exact fun A Q E s k q => wpAny_typeOf_ref (k _ _ h1) q
  | @frz a ob xs ea =>
    cases (show u = Value.ref a from rx)
    obtain ⟨_, _, _, n, _, h1⟩ := (show ObjOk X.prog X.w H s.heap a (.frz ob (.lst xs)) from I.hok a _ ea)
    exact fun A Q E s k q => wpAny_typeOf_ref (k _ _ h1) q
  | @tup a xs ea =>
    cases (show u = Value.ref a from rx)
    obtain ⟨_, _, _, p⟩ := (show ObjOk X.prog X.w H s.heap a (.tup xs) from I.hok a _ ea)
    obtain ⟨o, h1, h2, _⟩ := p
    exact fun A Q E s k q => wpAny_typeOf_ref (k _ _ h1) (by rw [h2]; exact q)
  | @dK a kvs ea =>
    cases (show u = Value.ref a from rx)
    obtain ⟨_, _, vs, _, p⟩ := (show ObjOk X.prog X.w H s.heap a (.dK kvs) from I.hok a _ ea)
    obtain ⟨o, es, ep, h1, h2, _⟩ := p
    exact fun A Q E s k q => wpAny_typeOf_ref (k _ _ h1) (by rw [h2.1]; exact q)
  | @dT a kvs ea =>
    cases (show u = Value.ref a from rx)
    obtain ⟨_, _, xs, _, o, es, ep, h1, h2, _⟩ := (show ObjOk X.prog X.w H s.heap a (.dT kvs) from I.hok a _ ea)
    exact fun A Q E s k q => wpAny_typeOf_ref (k _ _ h1) (by rw [h2.1]; exact q)
  | @ins a C dx fs ea cl ha hn htk hm =>
    cases (show u = Value.ref a from rx)
    obtain ⟨_, _, J⟩ := inst_at I ea
    exact J.type
/-- x == y, x of the class at C, y of any type that is known -/
def rEqO (K : PySem.W.Frag) (C : Addr) (sp : Sp) (E : XK) : R2 := fun x y H Q => ∃ a dx fs t, x = .ref a ∧ H a = some (.ins C dx fs) ∧ TyOf K H y t ∧ PySem.W.notFirst K C t = true ∧ sp [.ref a, y] H Q E
theorem op_eqO (F : FnOk X.prog X.w X.K X.mg X.base CX k f fd ps sp) (O : Own X.K C f "__eq__") (hr : Room k X.A) (hb : Binds X.K fd ps []) (hx : Passes CX X E) : OpR X (compareOp .Eq) (rEqO X.K C sp E) := by
  intro pins s σ H x y v u Q I rx ry h
  obtain ⟨a, dx, fs, t, rfl, ea, ty, hn, q⟩ := h
  cases rx
  obtain ⟨_, _, J⟩ := inst_at I ea
  obtain ⟨m, hF⟩ := I.fr
  show wpAny _ _ (richCompare .Eq (.ref a) u) _ _ _
  refine PySem.W.cmp_K (op := .Eq) hr.units0 hF I.ok.mod.kin J (ty_looks I ry ty) hn O.at_ O.fn ?_
  refine wpAny_mono (run_sub (vs := [.ref a, y]) F hr rfl hb hx I (.cons rfl (.cons ry .nil)) q) (fun r s' z => ?_) fun _ _ z => z
  have z' := z
  obtain ⟨_, _, _, rv, _⟩ := z'
  exact back rv z
end
/-! ### !=, by object's own __ne__ over the class's __eq__ -/
section
open PySem.W
variable {prog : Program} {w : World} {A : Around} {E : Value → Shared → Prop} {s : Shared} {K : Frag} {x C L f : Addr} {h₀ : Heap} {m : Str → Option Value} {ox : Obj} {od : Option Obj} {b tb : Value}
theorem ne_entry (X : K.In s.heap) (I : InstAt s.heap x ox C od) (hs : findIn K (.ref C) "__eq__" = some (some (.ref f))) (hf : isFn K (.ref f) = true) (hu : A.units < cLine) {Q : Fin → Shared → Prop}
    (hcall : wpAny (model prog w) A (call (.ref f) [.ref x, b]) (fun v s' => ∃ c, v = .bool c ∧ Q (.done (.ret (.bool (!c)))) s') E s) :
    wpAny (model prog w) A (Builtin.«object.__ne__» ⟨[.ref x, b], []⟩) Q E s := by
  have one : wpAny (model prog w) A (callSpecialIfBound? (.ref x) (Str.ofString "__eq__") [b]) (fun r s' => ∃ c, r = some (.bool c) ∧ Q (.done (.ret (.bool (!c)))) s') E s :=
    ifBound_K X I hs hf (wpAny_mono hcall (fun v s' z => by
      obtain ⟨c, rfl, q⟩ := z
      exact ⟨c, rfl, q⟩) fun _ _ z => z)
  obtain ⟨hh, g, d, t, os⟩ := s
  unfold Builtin.«object.__ne__»
  repeat (first
    | with_reducible refine wpAny_cRoomFor hu ?_
    | (refine wpAny_bind (m := callSpecialIfBound? (.ref x) (Str.ofString "__eq__") [b]) (wpAny_mono one (fun r s' hr => by
          obtain ⟨c, rfl, hq⟩ := hr
          repeat (first | exact hq | exact wpAny_pure hq | exact wpAny_truthy_bool hq | (refine wpAny_bind (m := truthy (.bool _)) (wpAny_truthy_bool ?_)) | wp_step)) fun _ _ e => e))
    | wp_step)
end
end RX
set_option maxRecDepth 100000
set_option maxHeartbeats 4000000
/-! !=, bool(..) and calls by keyword of own classes; defs that are entered where nothing is being shown. -/
namespace RX
open PySem PySem.Spec PyProof.Rows L2
section
open PySem.W
variable {prog : Program} {w : World} {A : Around} {E : Value → Shared → Prop} {s : Shared} {K : Frag} {x C L f : Addr} {h₀ : Heap} {m : Str → Option Value} {ox : Obj} {od : Option Obj} {b tb : Value}
theorem ne_slot : Slot "object" "__ne__" "object.__ne__" := PySem.F.slot_object_ne
/-- a special method that is a builtin of the class's line -/
theorem ifBound_B {M : Model} {name : Str} {id : String} {args : List Value} {Q : Option Value → Shared → Prop} (X : K.In s.heap) (I : InstAt s.heap x ox C od) (hs : findIn K (.ref C) name = some (some (.builtin id))) (hb : bindSpecial (.builtin id) (.ref x) = pure (.builtin id, [.ref x]))
    (h : wpAny M A (call (.builtin id) (.ref x :: args)) (fun v => Q (some v)) E s) : wpAny M A (callSpecialIfBound? (.ref x) name args) Q E s := by
  have told : wpAny M A (do let v ← call (.builtin id) ([.ref x] ++ args); pure (some v)) Q E s := wpAny_bind (thn h fun _ _ q => wpAny_pure q)
  simp only [callSpecialIfBound?, bindSpecialIfBound?]
  apply wpAny_holding
  refine wpAny_bind (wpAny_bind (wpAny_bind (I.type.here ((looks_findIn X hs).here ?_))))
  simp only [hb]
  refine wpAny_bind (wpAny_askSetting (wpAny_ite ?_))
  split <;> first
    | exact wpAny_bind (wpAny_pure (wpAny_pure told))
    | exact wpAny_tryCatch (wpAny_bind (wpAny_pure (wpAny_pure told)))
theorem ne_K {Q : Value → Shared → Prop} (hu : A.units + 1 < cLine) (F : Fr h₀ L s.heap m) (X₀ : K.In h₀) (I : InstAt s.heap x ox C od) (hb : Looks (model prog w) s.heap (typeOf b) tb) (hn : notFirst K C tb = true)
    (h1 : findIn K (.ref C) "__ne__" = some (some (.builtin "object.__ne__"))) (hs : findIn K (.ref C) "__eq__" = some (some (.ref f))) (hf : isFn K (.ref f) = true) (ho : mroIn K C (.type "object") = some true)
    (h : wpAny (model prog w) A.in1 (call (.ref f) [.ref x, b]) (fun v s' => ∃ c, v = .bool c ∧ Q (.bool (!c)) s') E s) : wpAny (model prog w) A (richCompare .NotEq (.ref x) b) Q E s := by
  have X := X₀.keeps F.keep
  have anObject : Looks (model prog w) s.heap (isInstance (.ref x) (.type "object")) true := I.type.andThen (looks_mroIn X ho)
  -- object.__ne__ asks __eq__ and turns it round
  have turned : wpAny (model prog w) A (call (.builtin "object.__ne__") [.ref x, b]) (fun v s' => ∃ c, v = .bool c ∧ Q (.bool c) s') E s :=
    wpAny_call (codeAny_call_builtin ne_slot.plain PySem.F.cmpEntry_ne (check_slot PySem.F.cmpKind_ne PySem.F.cmpSplit_ne anObject (PySem.F.cmpArgs_ne _ _)
      (ne_entry X I hs hf (A := A.in1) hu (thn h fun _ _ ⟨c, e, q⟩ => ⟨c, e, ⟨!c, rfl, q⟩⟩))))
  have asked : wpAny (model prog w) A (tryCompare (.ref x) (cmpInfo .NotEq).2.1 b) (fun r s' => ∃ c, r = some (.bool c) ∧ Q (.bool c) s') E s := by
    simp only [tryCompare]
    exact wpAny_bind (ifBound_B X I h1 (ne_slot.bind _) (thn turned fun _ _ ⟨c, e, q⟩ => by subst e; exact wpAny_pure ⟨c, rfl, q⟩))
  have rest : ∀ {g : Option Value → Sem Value}, (∀ v s', Q v s' → wpAny (model prog w) A (g (some v)) Q E s') → wpAny (model prog w) A (tryCompare (.ref x) (cmpInfo .NotEq).2.1 b >>= g) Q E s := fun hg =>
    wpAny_bind (thn asked fun r s' ⟨c, e, q⟩ => e ▸ hg _ s' q)
  simp only [richCompare, oneThing_ref]
  apply wpAny_holding
  refine wpAny_bind (wpAny_cRoomFor (by omega) (wpAny_bind (I.type.here (wpAny_bind (hb.here ?_)))))
  split
  · next q =>
    have e : subIn K tb (.ref C) = some false := (Bool.or_eq_true_iff.mp hn).elim (fun z => by rw [beq_iff_eq.mp z] at q; simp at q) fun z => beq_iff_eq.mp z
    refine wpAny_bind ((looks_subIn X e).here ?_)
    simp only [Bool.false_eq_true, if_false]
    exact rest fun v s' z => wpAny_pure z
  · refine wpAny_bind (wpAny_pure ?_)
    simp only [Bool.false_eq_true, if_false]
    exact rest fun v s' z => wpAny_pure z
theorem bool_new (x : Addr) : MeetsIn prog w (Builtin.«bool.__new__» ⟨[.type "bool", .ref x], []⟩) (fun A R s => wpAny (model prog w) A.in1 (truthy (.ref x)) (fun b s1 => R (.ok (.ret (.bool b))) s1) (fun e s1 => R (.error e) s1) s) :=
  .of_wp fun A R s h => by
    obtain ⟨hp, g, d, tk, os⟩ := s
    have f1 := PySem.F.conv_sub_bool
    repeat (any_goals (first | assumption | (with_reducible refine wpAny_mono h (fun b s1 z => ?_) (fun _ _ z => z)) | wp_step))
    all_goals first | exact ⟨_, rfl, z⟩ | skip
theorem call_bool_ref {x : Addr} {Q : Value → Shared → Prop} (h : wpAny (model prog w) A.in1.in1 (truthy (.ref x)) (fun b s1 => Q (.bool b) s1) E s) : wpAny (model prog w) A (call (.type "bool") [.ref x]) Q E s := by
  refine callType_newIn PySem.F.called_bool PySem.F.newNe_bool (PySem.F.typeCall_bool_1 _) (PySem.F.newCall_bool_1 _) (fun obj => PySem.F.args_object_init_2 obj _) PySem.F.entry_bool_new (bool_new x) ?_
  show wpAny (model prog w) A.in1.in1 (truthy (.ref x)) _ _ _
  refine wpAny_mono h (fun b s1 q => ?_) fun _ _ z => z
  show _ ∧ _
  exact ⟨rfl, q⟩
end

section
variable {X : Cx} {CX : CXT} {k : Nat} {f C : Addr} {fd : FuncData} {ps : List Str} {sp : Sp} {E : XK}
/-- x != y, both of the class at C, by its own == -/
def rNeO (K : PySem.W.Frag) (C : Addr) (sp : Sp) (E : XK) : R2 := fun x y H Q => ∃ a dx fs t, x = .ref a ∧ H a = some (.ins C dx fs) ∧ TyOf K H y t ∧ PySem.W.notFirst K C t = true ∧ sp [.ref a, y] H (fun v H' => ∃ c, v = .bl c ∧ Q (.bl (!c)) H') E
theorem op_neO (F : FnOk X.prog X.w X.K X.mg X.base CX k f fd ps sp) (O : Own X.K C f "__eq__") (h1 : PySem.W.findIn X.K (.ref C) "__ne__" = some (some (.builtin "object.__ne__"))) (ho : PySem.W.mroIn X.K C (.type "object") = some true)
    (hr : Room (k + 1) X.A) (hb : Binds X.K fd ps []) (hx : Passes CX X E) : OpR X (compareOp .NotEq) (rNeO X.K C sp E) := by
  intro pins s σ H x y v u Q I rx ry h
  obtain ⟨a, dx, fs, t, rfl, ea, ty, hn, q⟩ := h
  cases rx
  obtain ⟨_, _, J⟩ := inst_at I ea
  obtain ⟨m, hF⟩ := I.fr
  show wpAny _ _ (richCompare .NotEq (.ref a) u) _ _ _
  refine ne_K (hu_of hr) hF I.ok.mod.kin J (ty_looks I ry ty) hn h1 O.at_ O.fn ho ?_
  refine wpAny_mono (run_sub (vs := [.ref a, y]) F hr.in1 rfl hb hx I (.cons rfl (.cons ry .nil)) q) (fun r s' z => ?_) fun _ _ z => z
  obtain ⟨w, H', I', rv, c, rfl, q'⟩ := z
  cases rv
  exact ⟨c, rfl, .bl (!c), H', I', rfl, q'⟩
/-- bool(x) of an instance, by its own __bool__ -/
def rBoolO (C : Addr) (sp : Sp) (E : XK) : List V → Hp → VK → Prop := fun xs H Q => ∃ a dx fs, xs = [.ref a] ∧ H a = some (.ins C dx fs) ∧ sp [.ref a] H (fun v H' => ∃ c, v = .bl c ∧ Q (.bl c) H') E
theorem call_boolO (F : FnOk X.prog X.w X.K X.mg X.base CX k f fd ps sp) (O : Own X.K C f "__bool__") (hr : Room (k + 2) X.A) (hb : Binds X.K fd ps []) (hx : Passes CX X E) : CallR X (.type "bool") (rBoolO C sp E) := by
  intro pins s σ H xs us Q I r h
  obtain ⟨a, dx, fs, rfl, ea, q⟩ := h
  obtain rfl := Vals.ref1 r
  obtain ⟨_, _, J⟩ := inst_at I ea
  obtain ⟨m, hF⟩ := I.fr
  refine call_bool_ref (PySem.W.truthy_K hF I.ok.mod.kin J O.at_ O.fn ?_)
  refine wpAny_mono (run_sub (vs := [.ref a]) F hr.in1.in1 rfl hb hx I (.cons rfl .nil) q) (fun r s' z => ?_) fun _ _ z => z
  obtain ⟨w, H', I', rv, c, rfl, q'⟩ := z
  cases rv
  exact ⟨.bl c, H', I', rfl, q'⟩
end
/-! ### o.m(k = v), C.m(k = v) -/
/-- o.m(k = v, ..) -/
def tMethK (C : Addr) (m : Str) (sp : Sp) (gV : List V → List V → List V) (E : XK) (ta : TE) (tk : TA) : TE := fun σ H Q => ta σ H fun x H1 => ∃ a dx fs, x = .ref a ∧ H1 a = some (.ins C dx fs) ∧ fs.lookup m = none ∧ tk σ H1 fun zs H2 => sp (gV [x] zs) H2 Q E
section
variable {X : Cx} {CX : CXT} {k : Nat} {f C p g : Addr} {mc : Value} {fd : FuncData} {ps ks : List Str} {sp : Sp} {E : XK} {o : Expr} {kws : List Keyword} {m : Str} {pos apos : Pos} {ta : TE} {tk : TA} {pl : Sem Bool} {gB : List Value → List Value → List Value} {gV : List V → List V → List V}
theorem pe_methK (he : PE X o ta) (c : Cls X.K C) (hm : Meth X.K C m f) (F : FnOk X.prog X.w X.K X.mg X.base CX k f fd ps sp) (hr : Room k X.A) (hb : KBinds X.K fd ps ks gB gV) (hx : Passes CX X E) (hkw : PK X kws tk)
    (hall : (backToKw pos (keywordEach kws X.env)).all (·.1.isSome) = true := by rfl) (hks : (backToKw pos (keywordEach kws X.env)).filterMap (·.1) = ks := by rfl)
    (hpl : ((backTo pos (starEach [] X.env)).any (·.1) || (backToKw pos (keywordEach kws X.env)).any (·.1.isNone)) = false := by rfl)
    (ht : eval (.Call (.Attribute o m apos) [] kws pos) X.env = (do
      let ov ← eval o X.env
      standAt apos.atName
      let (f, first) ← holding [ov] (getMethod ov m pl)
      callWith pos f first (backTo pos (starEach [] X.env)) (backToKw pos (keywordEach kws X.env))) := by rfl) :
    PE X (.Call (.Attribute o m apos) [] kws pos) (tMethK C m sp gV E ta tk) := by
  refine ⟨fun pins s σ H Q I h => ?_⟩
  refine PySem.W.methodCall_KW (pl := pl) (thn (he.run pins s σ H _ I h) fun u s1 ⟨x, H1, I1, rx, a, dx, fs, ex, ea, l, q⟩ => ?_) ht
  subst ex
  obtain rfl : u = Value.ref a := rx
  refine getmeth_ok I1 ea c hm l ?_
  refine PySem.W.callWith_KW0 (first := [.ref a]) (h₀ := X.base) I.ok.mod.kin hm.kp hall ?_ hpl
  refine thn (hkw.run pos pins s1 σ H1 _ I1 q) fun ws s2 ⟨zs, H2, I2, rz, q2⟩ => ⟨I2.kIn, ?_⟩
  rw [hks]
  exact run_fnk (us := [.ref a]) (vs := [.ref a]) F hr hb hx I2 (.cons rfl .nil) rz q2
end
/-! ### defs that are entered where nothing is being shown (repr asks that) -/
structure FnG (P : Program) (w : World) (K : PySem.W.Frag) (mg : Str → Option Value) (base : Heap) (k : Nat) (f : Addr) (fd : FuncData) (ps : List Str) (sp : Sp) : Prop where
  len : ∀ vs H Q E, sp vs H Q E → vs.length = ps.length
  run : ∀ (A : Around) (outer : List Env) (s : Shared) (H : Hp) (args : Args) (us : List Value) (vs : List V) (Q : VK) (E : XK), Room k A → A.guards = some [] → Env0 P w K mg base A outer s H → BindsTo s fd args (ps.zip us) → Vals vs us → sp vs H Q E →
    codeAny (model P w) A (.call (.ref f) args) (CR CX0 outer P w H s Q E) s
section
variable {X : Cx} {k : Nat} {f : Addr} {fd : FuncData} {ps : List Str} {sp : Sp} {x : Str} {p pos : Pos} {e : Expr} {es : List Expr} {t : TA}
theorem pe_callG (F : FnG X.prog X.w X.K X.mg X.base k f fd ps sp) (hr : Room k X.A) (hgd : X.A.guards = some []) (hg : Gl X x) (hm : X.mg x = some (.ref f)) (hk : PySem.W.keepIn X.K (.ref f) = true) (hb : Binds X.K fd ps [])
    (ha : PA X (e :: es) t) (hdb : (x == ("__debug__" : Str)) = false := by decide) (he : starEach (e :: es) X.env = (false, eval e X.env) :: starEach es X.env := by rfl) (hpl : (backTo pos (starEach es X.env)).any (·.1) = false := by rfl) :
    PE X (.Call (.Name x p) (e :: es) [] pos) (tCall sp [] E0 t) := by
  refine ⟨fun pins s σ H Q I h => ?_⟩
  refine wpAny_Call_Name_kw (ld_glob I hg hm ?_ hdb)
  refine PySem.W.callWith_K (h₀ := X.base) I.ok.mod.kin hk (thn (ha.run pos pins s σ H _ I h) fun us s1 ⟨vs, H1, I1, r, q⟩ => ⟨I1.kIn, ?_⟩) he hpl
  have q : sp (vs ++ []) H1 Q E0 := q
  rw [List.append_nil] at q
  have hl : us.length = ps.length := by rw [← r.length]; exact F.len _ _ _ _ q
  refine wpAny_call (codeAny_mono (F.run X.A X.stack s1 H1 ⟨us, []⟩ us vs Q E0 hr hgd I1.env0 (by
    have := hb s1 us I1.kIn (by simpa using hl)
    simpa using this) r q) fun r s' hq => ?_)
  cases r with
  | error e => exact False.elim hq
  | ok fl =>
    cases fl with
    | ret u => exact I1.after hq
    | next => exact False.elim hq
    | brk => exact False.elim hq
    | cont => exact False.elim hq
end
section
variable {P : Program} {w : World} {K : PySem.W.Frag} {mg : Str → Option Value} {base : Heap}
theorem fnG_of {x qual : Str} {st : Stmt} {f : Addr} {fd : FuncData} {N ps : List Str} {k : Nat} {sp : Sp} (F : Fun K x qual st f fd) (S : FnScope N ps (defScope st)) (len : ∀ vs H Q E, sp vs H Q E → vs.length = ps.length)
    (hbody : ∀ (cdv : Value) (A : Around) (outer : List Env) (s : Shared) (H : Hp) (vs : List V) (Q : VK) (E : XK), Room k (A.deeper (envOfC qual (defScope st) s.heap.objs.size f cdv)) → (A.deeper (envOfC qual (defScope st) s.heap.objs.size f cdv)).guards = some [] → sp vs H Q E →
      ∃ t, PSs (cxOf CX0 P w K mg base N qual (defScope st) f cdv A outer s H E).nox (defBody st) t ∧ t { nx := fun _ H' => Q .non H', rt := Q } (start N vs) H) : FnG P w K mg base (k + 1) f fd ps sp := by
  obtain ⟨oc, od, kV, doc, pm, an, cdv, ct, osl, rfl, lk, hcd⟩ := F.ex
  refine ⟨len, fun A outer s H args us vs Q E hr hgd e0 hb r hsp => ?_⟩
  exact XO.run_at lk hcd S hr e0 hb r (len _ _ _ _ hsp) fun hr' => hbody cdv A outer s H vs Q E hr' hgd hsp
end
end RX
set_option maxRecDepth 100000
set_option maxHeartbeats 4000000
/-! Except clauses one by one: what is caught, what one clause does with it; an own error made without arguments; a classmethod called by keyword. -/
namespace RX
open PySem PySem.Spec PyProof.Rows L2
abbrev Suite := Addr → Value → Option Addr → TS
/-- the ends of a suite whose name, at slot i, goes -/
abbrev gone (i : Nat) (D : Ends) : Ends := { nx := fun σ' H' => D.nx (σ'.set i none) H', rt := D.rt, bk := fun σ' H' => D.bk (σ'.set i none) H', ct := fun σ' H' => D.ct (σ'.set i none) H' }
/-- what clauses with names wish of an exception, from the first on -/
def wNames (K : PySem.W.Frag) (n : Nat) (Wout : WX) (D : Ends) : List (Value × Nat × Suite) → WX
  | [] => Wout
  | q :: r => fun cls d σ H => ∃ b, PySem.W.exmOne K cls q.1 = some b ∧
      (b = true → ∀ a, H a = none → σ.length = n → q.2.2 a cls d (gone q.2.1 D) (σ.set q.2.1 (some (.ref a))) H) ∧ (b = false → wNames K n Wout D r cls d σ H)
section
variable {X : Cx} {pins : List (Addr × Obj)} {σ : L2.St} {H : Hp} {a : Addr} {cls : Value} {d : Option Addr} {s : Shared}
/-- an exception of class cls is in this frame's hand: the state without it, and what it has left as it was -/
structure Cgt (X : Cx) (pins : List (Addr × Obj)) (σ : L2.St) (H : Hp) (a : Addr) (cls : Value) (d : Option Addr) (B : Heap) (s0 s : Shared) : Prop where
  I : Inv X pins σ H s0
  gr : ∀ b o, s0.heap.get? b = some o → b ∉ frs X.stack → B.get? b = some o
  up : s0.heap.UpToSlots s.heap
  fl : HandSPX.FlyingZ B X.stack a (Zc cls d) s.heap
  na : H a = none
  os : s.os = s0.os
  ag : AllBare s.gens
variable {B : Heap} {s0 : Shared}
theorem Cgt.inv (c : Cgt X pins σ H a cls d B s0 s) : Inv X pins σ H s := c.I.landed c.gr c.fl.1 c.up c.os c.ag
/-- the flight told once more to be over -/
theorem Cgt.rest (c : Cgt X pins σ H a cls d B s0 s) {A : Around} {Q : Unit → Shared → Prop} {E : Value → Shared → Prop} (h : ∀ s', Cgt X pins σ H a cls d B s0 s' → Q () s') : wpAny (model X.prog X.w) A (setFlight (.ref a) none) Q E s :=
  HandSPX.lands_againZ c.fl fun _ fl' u' => h _ { c with up := c.up.trans u', fl := fl' }
/-- its object, and the state in which a suite runs -/
theorem Cgt.obj (c : Cgt X pins σ H a cls d B s0 s) (hf : X.env.frame = some X.env.locals) (hs : X.stack = X.env :: X.outer) :
    ∃ oe vs, s.heap.get? a = some oe ∧ Zc cls d oe ∧ oe.data = .fields vs ∧ Inv (X.suite a ((a, oe) :: (X.pn ++ pins))) [] σ H s := by
  obtain ⟨oe, vs, e1, e2, e3⟩ := c.fl.there
  have off : a ∉ frs X.stack := fun hm => by
    obtain ⟨_, o', g, nf⟩ := Heap.FunFrames.mem c.fl.2.2.1 hm
    cases e1.symm.trans g
    exact nf _ e3
  rw [hs] at off
  have off' : ∀ v ∈ X.env :: X.outer, v.frame ≠ some a := fun v hv q => off (List.mem_filterMap.mpr ⟨v, hv, q⟩)
  exact ⟨oe, vs, e1, e2, e3, c.inv.suite e1 e3 c.na (fun q => off' _ (.head _) (by rw [hf, q])) fun hm =>
    let ⟨v, hv, q⟩ := List.mem_filterMap.mp hm
    off' v (.tail _ hv) q⟩
/-- nobody wanted it: it goes on from this frame -/
theorem Cgt.pass (c : Cgt X pins σ H a cls d B s0 s) (hf : X.env.frame = some X.env.locals) {W : WX} (tk : Takes X W) (w : W cls d σ H) {r : String} {Q : Flow → Shared → Prop} : wpAny (model X.prog X.w) X.A (passOn r (.ref a) X.env) Q X.xe s := by
  obtain ⟨oe, vs, T, _, _, g1, _, g2, g3, _⟩ := c.fl.2.2.2
  have away : wpAny (model X.prog X.w) X.A (setFlight (.ref a) X.env.frame) (fun _ s' => wpAny (model X.prog X.w) X.A (throw (.ref a) : Sem Flow) Q X.xe s') X.xe s := by
    rw [hf]
    exact HandSPX.setFlight_upZ c.fl fun _ hd u' => wpAny_throw (tk _ _ ⟨a, B, s0, pins, σ, H, cls, d, rfl, c.I, c.gr, c.up.trans u', .inr (.inr hd), c.na, c.os, c.ag, w⟩)
  have tn : (Value.ref T == Value.none) = false := rfl
  simp only [PySem.passOn]
  refine wpAny_bind (wpAny_field g1 g2 g3 ?_)
  simp only [tn, Bool.false_eq_true, if_false]
  first
    | exact wpAny_bind away
    | exact wpAny_bind (wpAny_pure (wpAny_bind away))
/-- behind the body, behind a suite: the same state, in the try's own context -/
theorem SP.out {X' : Cx} {ps : List (Addr × Obj)} {D : Ends} (h : ∀ {σ' H' s'}, Inv X' ps σ' H' s' → Inv X pins σ' H' s') : ∀ {f : Flow} {s' : Shared}, SP X' ps D f s' → SP X pins D f s'
  | .next, _, ⟨_, _, J, q⟩ => ⟨_, _, h J, q⟩
  | .brk, _, ⟨_, _, J, q⟩ => ⟨_, _, h J, q⟩
  | .cont, _, ⟨_, _, J, q⟩ => ⟨_, _, h J, q⟩
  | .ret _, _, ⟨_, _, _, J, r, q⟩ => ⟨_, _, _, h J, r, q⟩
/-- clauses that do w with what is caught -/
def Hb (X : Cx) (hds : List ExceptHandler) (w : Ends → WX) : Prop := ∀ pins σ H a cls d B s0 s D, Cgt X pins σ H a cls d B s0 s → w D cls d σ H → wpAny (model X.prog X.w) X.A (handleBy (.ref a) X.env hds) (SP X pins D) X.xe s
end
section
variable {X : Cx} {hds : List ExceptHandler} {w w' : Ends → WX}
theorem Hb.weak (h : Hb X hds w) (i : ∀ D cls d σ H, w' D cls d σ H → w D cls d σ H) : Hb X hds w' := fun _ _ _ _ _ _ _ _ _ _ c q => h _ _ _ _ _ _ _ _ _ _ c (i _ _ _ _ _ q)
theorem hb_nil (hf : X.env.frame = some X.env.locals) {W : WX} (tk : Takes X W) : Hb X [] fun _ => W := fun _ _ _ _ _ _ _ _ _ _ c q => wpAny_handleBy_nil (c.pass hf tk q)
/-- except x as n: suite; n is at slot i -/
theorem hb_as (hs : X.stack = X.env :: X.outer) (hf : X.env.frame = some X.env.locals) (hN : X.N.Nodup) {x n : Str} {i : Nat} {cv : Value} {ts : Suite} {b₀ : Stmt} {suite : List Stmt} {np pos : Pos} (hi : X.N[i]? = some n) (hln : X.env.kindOf n = some .local) (hc : Names X x cv)
    (hsu : ∀ (a : Addr) (oe : Obj) (cls : Value) (d : Option Addr) (pn : List (Addr × Obj)), Zc cls d oe → (∃ vs, oe.data = .fields vs) → PSs (X.suite a ((a, oe) :: pn)) (b₀ :: suite) (ts a cls d)) (hr : Hb X hds w) :
    Hb X (.ExceptHandler (some (.Name x np)) (some n) (b₀ :: suite) pos :: hds) fun D cls d σ H => ∃ b, PySem.W.exmOne X.K cls cv = some b ∧
      (b = true → ∀ a, H a = none → σ.length = X.N.length → ts a cls d (gone i D) (σ.set i (some (.ref a))) H) ∧ (b = false → w D cls d σ H) := by
  intro pins σ H a cls d B s0 s D c ⟨b, eb, yes, no⟩
  obtain ⟨oe, _, e1, e2, _, J⟩ := c.obj hf hs
  have tyE : PySem.W.Looks (model X.prog X.w) s.heap (typeOf (.ref a)) cls := fun _ _ _ _ k q => wpAny_typeOf_ref (k _ _ e1) (e2.1 ▸ q)
  have isIt := PySem.W.exm_one (M := model X.prog X.w) c.inv.kIn tyE eb
  -- the class is read in the suite's context, and asked
  have ask : ∀ {Q : Bool → Shared → Prop} {E1 E2 : Value → Shared → Prop}, Q b s → wpAny (model X.prog X.w) (X.A.mark (some (.ref a))) (eval (.Name x np) X.env) (fun cv' s1 => wpAny (model X.prog X.w) (X.A.mark (some (.ref a))) (excMatches (.ref a) cv') Q E1 s1) E2 s := fun {Q E1 E2} q =>
    hc.2.2.elim (fun hm => ld_glob J hc.1 hm (isIt.here q) hc.2.1) fun hm => ld_blt J hc.1 hm.1 hm.2.1 (isIt.here q) hm.2.2 hc.2.1
  refine wpAny_handleBy_cons (codeAny_handlers_test (ask ?_)) nofun
  by_cases hb : b = true
  · subst hb
    -- the suite, with the name; behind it the name is gone
    have goes : ∀ {σ1 : L2.St} {H1 : Hp} {s1 : Shared} {Q : Shared → Prop} {q : Addr × Obj}, Inv (X.suite a (q :: (X.pn ++ pins))) [] σ1 H1 s1 → (∀ s2, Inv X pins (σ1.set i none) H1 s2 → Q s2) →
        wpAny (model X.prog X.w) X.A (do bindName X.env n .none; unbindBehindTheSuite X.env n pos) (fun _ s2 => Q s2) X.xe s1 := fun J1 h => gone_ok (J1.unsuite c.I.ok) hN hi hln h
    refine codeAny_handlers_suite_as (c.rest fun s1 c1 => ?_)
    obtain ⟨o1, _, f1, f2, f3, J1⟩ := c1.obj hf hs
    refine store_ok (X := X.suite a ((a, o1) :: (X.pn ++ pins))) (v := .ref a) J1 hN hi (.inl hln) rfl (fun s2 J2 => wpAny_mono ((hsu a o1 cls d _ f2 ⟨_, f3⟩).run [] s2 _ H (gone i D) J2 (yes rfl a c.na c.I.len)) (fun f s3 z => ?_) fun _ _ z => z.elim) (.inr hln)
    cases f with
    | ret u =>
      obtain ⟨_, _, _, J3, r3, q3⟩ := z
      exact goes J3 fun _ J4 => ⟨_, _, _, J4, r3, q3⟩
    | next =>
      obtain ⟨_, _, J3, q3⟩ := z
      exact goes J3 fun _ J4 => ⟨_, _, J4, q3⟩
    | cont =>
      obtain ⟨_, _, J3, q3⟩ := z
      exact goes J3 fun _ J4 => ⟨_, _, J4, q3⟩
    | brk =>
      obtain ⟨_, _, J3, q3⟩ := z
      exact goes J3 fun _ J4 => ⟨_, _, J4, q3⟩
  · obtain rfl : b = false := by simpa using hb
    exact hr _ _ _ _ _ _ _ _ _ _ c (no rfl)
/-- try: body, with such clauses -/
theorem ps_try_hb (hs : X.stack = X.env :: X.outer) (hf : X.env.frame = some X.env.locals) {h₀ : ExceptHandler} {body : List Stmt} {tb : WX → TS} {pos : Pos} (hh : Hb X (h₀ :: hds) w)
    (hb : ∀ (W : WX) (pn : List (Addr × Obj)) (xe : Value → Shared → Prop), Takes (X.tr pn xe) W → PassesOwn (model X.prog X.w) X.A X.env xe → PSs (X.tr pn xe) body (tb W)) : PS X (.Try body (h₀ :: hds) [] [] pos) (fun D => tb (w D) D) := by
  constructor
  intro pins s σ H D I h
  have fr : X.A.frames = some (X.env :: X.outer) := by rw [I.ok.frames, hs]
  apply wpAny_Try_except
  refine wpAny_mono ((hb (w D) (X.pn ++ pins) _ (fun e s1 x => ?_) PassesOwn.looking).run [] s σ H D (I.toTry _) h) (fun f s1 z => ?_) fun _ _ z => z
  · obtain ⟨a, B, s0, ps, σ1, H1, cls, d, rfl, J, gr, up, sky, na, os, ag, q⟩ := x
    have J0 : Inv X pins σ1 H1 s0 := J.ofTry I.ok
    have sky1 : Sky B (X.env :: X.outer) a (Zc cls d) X.env.locals s1.heap := hs ▸ sky
    exact Sky.land Zc.steady fr hf sky1 fun h' fl u' => hh _ _ _ _ _ _ B s0 _ D ⟨J0, gr, up.trans u', by rw [hs]; exact fl, na, os, ag⟩ q
  · have z := SP.out (pins := pins) (X := X) (fun J => J.ofTry I.ok) z
    cases f with
    | next => exact wpAny_execs_nil z
    | _ => exact z
/-- clauses with names, as a list -/
def HdsN (X : Cx) (hds : List ExceptHandler) (l : List (Value × Nat × Suite)) : Prop := X.stack = X.env :: X.outer → X.env.frame = some X.env.locals → X.N.Nodup → ∀ Wout, Takes X Wout → Hb X hds fun D => wNames X.K X.N.length Wout D l
theorem HdsN.nil : HdsN X [] [] := fun _ hf _ _ tk => hb_nil hf tk
theorem HdsN.cons {x n : Str} {i : Nat} {c : Value} {ts : Suite} {b₀ : Stmt} {suite : List Stmt} {np pos : Pos} {l : List (Value × Nat × Suite)} (hi : X.N[i]? = some n) (hln : X.env.kindOf n = some .local) (hc : Names X x c)
    (hsu : ∀ (a : Addr) (oe : Obj) (cls : Value) (d : Option Addr) (pn : List (Addr × Obj)), Zc cls d oe → (∃ vs, oe.data = .fields vs) → PSs (X.suite a ((a, oe) :: pn)) (b₀ :: suite) (ts a cls d)) (r : HdsN X hds l) :
    HdsN X (.ExceptHandler (some (.Name x np)) (some n) (b₀ :: suite) pos :: hds) ((c, i, ts) :: l) := fun hs hf hN W tk => hb_as hs hf hN hi hln hc hsu (r hs hf hN W tk)
theorem ps_try_names {body : List Stmt} {h₀ : ExceptHandler} {l : List (Value × Nat × Suite)} {pos : Pos} {tb : WX → TS} {Wout : WX} (hs : X.stack = X.env :: X.outer) (hf : X.env.frame = some X.env.locals) (hN : X.N.Nodup) (tk : Takes X Wout)
    (hb : ∀ (W : WX) (pn : List (Addr × Obj)) (xe : Value → Shared → Prop), Takes (X.tr pn xe) W → PassesOwn (model X.prog X.w) X.A X.env xe → PSs (X.tr pn xe) body (tb W))
    (hh : HdsN X (h₀ :: hds) l) : PS X (.Try body (h₀ :: hds) [] [] pos) (fun D σ H => tb (wNames X.K X.N.length Wout D l) D σ H) := ps_try_hb hs hf (hh hs hf hN Wout tk) hb
end
section
variable {X : Cx} {C : Addr} {bmB : List Value} {B newId initId : String}
/-- X(), an own exception class without an own __init__ -/
theorem pmk_own0 {x : Str} {p pos : Pos} (F : ExcBaseFacts B newId initId bmB) (q : PySem.W.excIn X.K C bmB newId = true) (gC : X.mg x = some (.ref C)) (kC : PySem.W.keepIn X.K (.ref C) = true) (r : Raises X (.ref C)) (hg : Gl X x)
    (hdb : (x == ("__debug__" : Str)) = false := by decide) : PMk X (.Call (.Name x p) [] [] pos) (fun _ H Q => Q (.ref C) none H) := by
  intro pins s σ H Q I h
  refine wpAny_Call_Name_kw (ld_glob I hg gC ?_ hdb)
  refine PySem.W.callWith_K0 I.kIn kC ?_
  show wpAny _ _ (call (.ref C) []) _ _ _
  obtain ⟨bm, N, nm, qn, bs, hdct, sn, sub, ab, col, dd, k0, k1, k2, k3, k5, mN, hC, hN, hni, T⟩ := exc_obj I.kIn q
  refine wpAny_call_exc_subT F T hC hN hni (fun h' e hm => ?_) (by show 0 ≤ sizeLine; rw [sizeLine_eq]; omega)
  exact mk_of I hm r h (I.hok.gone hm.new)
end
/-! ### C.m(k = v), m a classmethod -/
def tCMethK (C : Addr) (sp : Sp) (E : XK) (gV : List V → List V → List V) (ta : TE) (tk : TA) : TE := fun σ H Q => ta σ H fun x H1 => x = .ref C ∧ tk σ H1 fun zs H2 => sp (gV [.ref C] zs) H2 Q E
section
variable {X : Cx} {CX : CXT} {k : Nat} {C p g : Addr} {mc : Value} {fd : FuncData} {ps ks : List Str} {sp : Sp} {E : XK} {o : Expr} {kws : List Keyword} {m : Str} {pos apos : Pos} {ta : TE} {tk : TA} {pl : Sem Bool} {gB : List Value → List Value → List Value} {gV : List V → List V → List V}
theorem pe_cmethK (he : PE X o ta) (r : ClX.CRead X.K C mc) (c : ClX.CMet X.K C mc m p g) (F : FnOk X.prog X.w X.K X.mg X.base CX k g fd ps sp) (hr : Room k X.A) (hb : KBinds X.K fd ps ks gB gV) (hx : Passes CX X E) (hkw : PK X kws tk)
    (hall : (backToKw pos (keywordEach kws X.env)).all (·.1.isSome) = true := by rfl) (hks : (backToKw pos (keywordEach kws X.env)).filterMap (·.1) = ks := by rfl)
    (hpl : ((backTo pos (starEach [] X.env)).any (·.1) || (backToKw pos (keywordEach kws X.env)).any (·.1.isNone)) = false := by rfl)
    (ht : eval (.Call (.Attribute o m apos) [] kws pos) X.env = (do
      let ov ← eval o X.env
      standAt apos.atName
      let (f, first) ← holding [ov] (getMethod ov m pl)
      callWith pos f first (backTo pos (starEach [] X.env)) (backToKw pos (keywordEach kws X.env))) := by rfl) :
    PE X (.Call (.Attribute o m apos) [] kws pos) (tCMethK C sp E gV ta tk) := by
  refine ⟨fun pins s σ H Q I h => ?_⟩
  refine PySem.W.methodCall_KW (pl := pl) (thn (he.run pins s σ H _ I h) fun u s1 ⟨x, H1, I1, rx, ex, q⟩ => ?_) ht
  subst ex
  obtain rfl : u = Value.ref C := rx
  refine ClX.getmethcm_ok I1 r c fun s2 I2 => ?_
  have hq := ClX.pin_at I2
  refine PySem.W.callWith_of hpl (PySem.W.keeps_M (self := .ref C) c.fi) (PyProof.Rows.evalArgs_kw2_nil hall ?_)
  refine thn (hkw.run pos _ s2 σ H1 _ I2 q) fun ws s3 ⟨zs, H2, I3, rz, q2⟩ => ⟨⟨ClX.pin_at I3, I3.kIn⟩, ?_⟩
  rw [hks]
  show wpAny _ _ (call (.ref s1.heap.objs.size) [] (ks.zip ws)) _ _ _
  have z : wpAny (model X.prog X.w) X.A (call (.ref s1.heap.objs.size) [] (ks.zip ws)) (EP X ((s1.heap.objs.size, PySem.W.methodObj (.ref g) (.ref C)) :: pins) σ Q) X.xe s3 := by
    refine wpAny_call (PySem.W.method_call (ClX.pin_at I3) ?_)
    have r2 := hb.rel (.cons rfl .nil : Vals [V.ref C] [Value.ref C]) rz
    have hl : (gB [Value.ref C] ws).length = ps.length := by rw [← r2.length]; exact F.len _ _ _ _ q2
    refine codeAny_mono (F.run X.A X.stack s3 H2 ⟨[.ref C], ks.zip ws⟩ (gB [.ref C] ws) (gV [.ref C] zs) Q E hr I3.env0 (hb.to s3 [.ref C] ws I3.kIn hl) r2 q2) fun r s' hq => ?_
    cases r with
    | error e => exact hx _ σ H2 s3 e s' I3 hq
    | ok fl =>
      cases fl with
      | ret u => exact I3.after hq
      | next => exact False.elim hq
      | brk => exact False.elim hq
      | cont => exact False.elim hq
  exact thn z fun _ _ y => ClX.unpinE y
end
end RX
set_option maxRecDepth 100000
set_option maxHeartbeats 4000000
/-! Ratios: what the class's defs promise. -/
namespace RX
open PySem PySem.Spec PyProof.Rows L2
section
variable {σ : L2.St} {H : Hp} {te : TE} {v : V} {c : TT} {t1 t2 u : TS} {D : Ends} {i : Nat}
theorem sA_no (h : Ans c σ H false) (q : u D σ H) : tSeq (tIfS c t1 tNext) u D σ H := h _ (iteF q)
theorem sA_yes (h : Ans c σ H true) (q : t1 { D with nx := u D } σ H) : tSeq (tIfS c t1 t2) u D σ H := h _ (iteT q)
theorem sA_set (h : Val te σ H v) (q : u D (σ.set i (some v)) H) : tSeq (tAsg te (gName i)) u D σ H := h _ q
end
/-! ### lowest terms -/
def gc (u d : Int) : Int := if d < 0 then -((Nat.gcd u.natAbs d.natAbs : Nat) : Int) else ((Nat.gcd u.natAbs d.natAbs : Nat) : Int)
def tp (u d : Int) : Int := u.fdiv (gc u d)
def bt (u d : Int) : Int := d.fdiv (gc u d)
theorem gcd_pos {u d : Int} (h : d ≠ 0) : 0 < Nat.gcd u.natAbs d.natAbs := Nat.gcd_pos_of_pos_right _ (by omega)
theorem gc_ne {u d : Int} (h : d ≠ 0) : gc u d ≠ 0 := by
  have := gcd_pos (u := u) h
  unfold gc
  split <;> omega
theorem gc_le {u d : Int} {n : Nat} (h : d ≠ 0) (hd : d.natAbs < 2 ^ n) : (gc u d).natAbs < 2 ^ n := by
  have h1 : Nat.gcd u.natAbs d.natAbs ≤ d.natAbs := Nat.gcd_le_right _ (by omega)
  unfold gc
  split <;> omega
/-! ### // by any divisor that is not 0 -/
def CDivX (_ j : Int) : Prop := j ≠ 0 ∧ j.natAbs.log2 < 9000
theorem op_fdivX {X : Cx} : OpR X (binaryOp .FloorDiv) (rI CDivX fun i j => .int (i.fdiv j)) := opI fun i j _ _ _ _ _ hc q => floordiv_int hc.1 q (.inl (PyProof.noPylong_of_log2 hc.2))
theorem div_x {i j : Int} {b : Nat} (h : j ≠ 0) (hb : j.natAbs < 2 ^ b) (h0 : 0 < b) (h9 : b ≤ 9000) : CDivX i j := ⟨h, Nat.lt_of_lt_of_le (PySem.Flt.log2_lt_of h0 hb) h9⟩
/-! ### a fraction as an object -/
def flds (t b : Int) : List (Str × V) := [("top", .int t), ("bottom", .int b)]
theorem ne_tb : ¬ (("bottom" : Str) = "top") := by decide +kernel
theorem ne_bt : ¬ (("top" : Str) = "bottom") := by decide +kernel
theorem flds_top {t b : Int} : (flds t b).lookup ("top" : Str) = some (V.int t) := by
  unfold flds
  rw [List.lookup_cons, beq_self_eq_true]
theorem flds_bot {t b : Int} : (flds t b).lookup ("bottom" : Str) = some (V.int b) := by
  unfold flds
  rw [List.lookup_cons]
  rw [show (("bottom" : Str) == "top") = false from beq_false_of_ne ne_tb, List.lookup_cons, beq_self_eq_true]
theorem flds_put {t b : Int} : putF "bottom" (.int b) (putF "top" (.int t) []) = flds t b := by
  show (if ("top" : Str) = "bottom" then [(("top" : Str), V.int b)] else (("top" : Str), V.int t) :: putF "bottom" (V.int b) []) = _
  rw [if_neg ne_bt]
  rfl
theorem flds_no {t b : Int} {m : Str} (h1 : ¬ m = "top") (h2 : ¬ m = "bottom") : (flds t b).lookup m = none := by
  unfold flds
  rw [List.lookup_cons, show (m == ("top" : Str)) = false from beq_false_of_ne h1, List.lookup_cons, show (m == ("bottom" : Str)) = false from beq_false_of_ne h2]
  rfl
/-- v is a fraction of the class at C with this top and bottom -/
def RatP (C : Addr) (t b : Int) : LP.PV := fun v H => ∃ a dx, v = .ref a ∧ H a = some (.ins C dx (flds t b))
theorem stb_rat {C : Addr} {t b : Int} : LP.Stb (RatP C t b) := fun _ _ _ g ⟨a, dx, e, h⟩ => ⟨a, dx, e, g _ _ h⟩
/-! ### is it an integer -/
def intV : V → Bool
  | .int _ => true
  | _ => false
theorem intV_int {x : V} (h : intV x = true) : ∃ u, x = .int u := by
  cases x <;> first | exact ⟨_, rfl⟩ | cases h
/-- what isinstance says of a value, for int and bool -/
def KI (K : PySem.W.Frag) (H : Hp) (x : V) : Prop := ∃ t b1 b2, TyX K H x t ∧ PySem.W.kitOne K t (.type "int") = some b1 ∧ PySem.W.kitOne K t (.type "bool") = some b2 ∧ (b1 && !b2) = intV x ∧ (b1 = true → (∃ u, x = .int u) ∨ ∃ b, x = .bl b)
theorem ki_int {K : PySem.W.Frag} {H : Hp} (u : Int) : KI K H (.int u) := ⟨_, true, false, .base (.int u), kit_ty (by decide +kernel), kit_ty (by decide +kernel), rfl, fun _ => .inl ⟨u, rfl⟩⟩
theorem ki_non {K : PySem.W.Frag} {H : Hp} : KI K H .non := ⟨_, false, false, .base .non, kit_ty (by decide +kernel), kit_ty (by decide +kernel), rfl, fun h => Bool.noConfusion h⟩
theorem ki_bl {K : PySem.W.Frag} {H : Hp} (b : Bool) : KI K H (.bl b) := ⟨_, true, true, .base (.bl b), kit_ty (by decide +kernel), kit_ty (by decide +kernel), rfl, fun _ => .inr ⟨b, rfl⟩⟩
theorem ki_str {K : PySem.W.Frag} {H : Hp} (x : Str) : KI K H (.str x) := ⟨_, false, false, .base (.str x), kit_ty (by decide +kernel), kit_ty (by decide +kernel), rfl, fun h => Bool.noConfusion h⟩
theorem ki_lst {K : PySem.W.Frag} {H : Hp} {a : Addr} {xs : List V} (e : H a = some (.lst xs)) : KI K H (.ref a) := ⟨_, false, false, .base (.lst e), kit_ty (by decide +kernel), kit_ty (by decide +kernel), rfl, fun h => Bool.noConfusion h⟩
theorem ki_tup {K : PySem.W.Frag} {H : Hp} {a : Addr} {xs : List V} (e : H a = some (.tup xs)) : KI K H (.ref a) := ⟨_, false, false, .base (.tup e), kit_ty (by decide +kernel), kit_ty (by decide +kernel), rfl, fun h => Bool.noConfusion h⟩
theorem ki_dK {K : PySem.W.Frag} {H : Hp} {a : Addr} {kvs : List (Key × V)} (e : H a = some (.dK kvs)) : KI K H (.ref a) := ⟨_, false, false, .base (.dK e), kit_ty (by decide +kernel), kit_ty (by decide +kernel), rfl, fun h => Bool.noConfusion h⟩
/-- what isinstance says of a value, for the class at C: r -/
def KR (K : PySem.W.Frag) (C : Addr) (H : Hp) (x : V) (r : Bool) : Prop := ∃ t, TyX K H x t ∧ PySem.W.kitOne K t (.ref C) = some r
def spInt (K : PySem.W.Frag) : Sp := fun vs H Q _ => ∃ x, vs = [x] ∧ KI K H x ∧ Q (.bl (intV x)) H
/-- what stands of the class in the written part -/
structure RTx (K : PySem.W.Frag) (mg : Str → Option Value) (C CI CQ : Addr) : Prop where
  cl : Cls K C
  nT : NoAttr K C "top"
  nB : NoAttr K C "bottom"
  gR : mg "Ratio" = some (.ref C)
  gI : mg "InvalidRatio" = some (.ref CI)
  xI : PySem.W.excIn K CI [.type "ValueError", .type "Exception", .type "BaseException", .type "object"] "ValueError.__new__" = true
  kI : PySem.W.keepIn K (.ref CI) = true
  bI : PySem.W.subIn K (.ref CI) (.type "BaseException") = some true
  tI : PySem.W.typeIn K (.ref CI) = some (.type "type")
  gQ : mg "NoQuotient" = some (.ref CQ)
  xQ : PySem.W.excIn K CQ [.type "ValueError", .type "Exception", .type "BaseException", .type "object"] "ValueError.__new__" = true
  kQ : PySem.W.keepIn K (.ref CQ) = true
  bQ : PySem.W.subIn K (.ref CQ) (.type "BaseException") = some true
  tQ : PySem.W.typeIn K (.ref CQ) = some (.type "type")
  ha : PySem.W.findIn K (.ref C) "__class__" = some (some (.builtin "object.__class__"))
  hn : PySem.W.specialIn K (.builtin "object.__class__") "__get__" = some (some (.builtin "getset_descriptor.__get__"))
  ht : PySem.W.takesIn K (.builtin "object.__class__") = some true
  hm : PySem.W.mroIn K C (.type "object") = some true
  kInt : PySem.W.kitOne K (.ref C) (.type "int") = some false
  kBool : PySem.W.kitOne K (.ref C) (.type "bool") = some false
  kR : PySem.W.kitOne K (.ref C) (.ref C) = some true
  kOf : ∀ n ∈ ["NoneType", "bool", "int", "str", "list", "tuple", "dict"], PySem.W.kitOne K (.type n) (.ref C) = some false
  gcd : mg "gcd" = some (.builtin "math.gcd")
  isi : mg "isinstance" = none
  int : mg "int" = none
  bool : mg "bool" = none
theorem RTx.ty {K : PySem.W.Frag} {mg : Str → Option Value} {C CI CQ : Addr} (T : RTx K mg C CI CQ) {H : Hp} {a dx : Addr} {fs : List (Str × V)} (e : H a = some (.ins C dx fs)) : TyOf K H (.ref a) (.ref C) := .ins e T.cl T.ha T.hn T.ht T.hm
theorem RTx.ki {K : PySem.W.Frag} {mg : Str → Option Value} {C CI CQ : Addr} (T : RTx K mg C CI CQ) {H : Hp} {a dx : Addr} {fs : List (Str × V)} (e : H a = some (.ins C dx fs)) : KI K H (.ref a) := ⟨_, false, false, .base (T.ty e), T.kInt, T.kBool, rfl, fun h => Bool.noConfusion h⟩
theorem RTx.kr {K : PySem.W.Frag} {mg : Str → Option Value} {C CI CQ : Addr} (T : RTx K mg C CI CQ) {H : Hp} {a dx : Addr} {fs : List (Str × V)} (e : H a = some (.ins C dx fs)) : KR K C H (.ref a) true := ⟨_, .base (T.ty e), T.kR⟩
end RX
set_option maxRecDepth 100000
set_option maxHeartbeats 4000000
namespace B2
open PySem PySem.Spec PyProof.Rows L2 RX LP
def top (i : Nat) : Stmt := PySem.Challenge.pw_betweenfaces_k02_fractions_in_lowest_ter.main.body.getD i (.Pass ⟨0, 0, 0, 0⟩)
abbrev sInit : Stmt := inClass (top 8) 0
abbrev sOf : Stmt := inClass (top 8) 1
abbrev sAdd : Stmt := inClass (top 8) 3
abbrev sSub : Stmt := inClass (top 8) 4
abbrev sMul : Stmt := inClass (top 8) 5
abbrev sNeg : Stmt := inClass (top 8) 6
abbrev sEq : Stmt := inClass (top 8) 7
abbrev sBool : Stmt := inClass (top 8) 8
abbrev sUnder : Stmt := inClass (top 8) 11
abbrev sOver : Stmt := inClass (top 8) 12
section
variable {σ : L2.St} {H : Hp} {te ta tb : TE} {x v cv : V} {t u : Value} {b c : Bool} {K : PySem.W.Frag}
theorem val_isi (h : Val te σ H x) (ty : TyX K H x t) (k : PySem.W.kitOne K t u = some b) (c : ClsV cv u) : Val (tCB (rIsi K) (tCons te (tCons (tC cv) tNil))) σ H (.bl b) := fun Q q => h _ ⟨x, cv, t, u, b, rfl, c, ty, k, q⟩
theorem val_and (h1 : Val ta σ H (.bl b)) (h2 : b = true → Val tb σ H (.bl c)) : Val (tAndV ta tb) σ H (.bl (b && c)) := fun Q q => h1 _ ⟨b, rfl, by
  cases b with
  | true => exact h2 rfl _ q
  | false => exact q⟩
theorem val_not (h1 : Val ta σ H (.bl b)) : Val (tNotV ta) σ H (.bl (!b)) := fun Q q => h1 _ ⟨b, rfl, q⟩
end
section
variable {P : Program} {w : World} {K : PySem.W.Frag} {mg : Str → Option Value} {base : Heap} {C CI CQ f : Addr} {fd : FuncData}
/-- where a def stands -/
structure At (K : PySem.W.Frag) (mg : Str → Option Value) (x : Str) (f : Addr) (fd : FuncData) (ps : List Str) : Prop where
  mg : mg x = some (.ref f)
  kp : PySem.W.keepIn K (.ref f) = true
  b : Binds K fd ps []
def big : Nat := 4000
/-- Ratio(x, y): a fraction, or InvalidRatio -/
def spInit (K : PySem.W.Frag) (C CI : Addr) : Sp := fun vs H Q E => ∃ p dx x y, vs = [.ref p, x, y] ∧ H p = some (.ins C dx []) ∧ KI K H x ∧ KI K H y ∧
  (∀ u d, x = .int u → y = .int d → d ≠ 0 → u.natAbs < 2 ^ 4000 ∧ d.natAbs < 2 ^ 4000 ∧ Q .non (upd H p (.ins C dx (flds (tp u d) (bt u d))))) ∧ ((∀ u d, x = .int u → y = .int d → d = 0) → E (.ref CI) none H)
theorem scInit : FnScope ["self", "top", "bottom", "shared"] ["self", "top", "bottom"] (defScope sInit) := ⟨rfl, rfl, rfl, by decide +kernel, rfl, by decide +kernel, by decide +kernel⟩
def rEq2 : R2 := fun x y H Q => (∃ b j, x = .bl b ∧ y = .int j ∧ Q (.bl ((if b then 1 else 0) == j)) H) ∨ rEq x y H Q
theorem op_eq2 {X : Cx} : OpR X (compareOp .Eq) rEq2 := by
  intro pins s σ H x y v u Q I rx ry h
  rcases h with ⟨b, j, rfl, rfl, q⟩ | h
  · cases rx
    obtain ⟨t, rfl⟩ := ry
    exact PySem.EqBoolInt.eq_bool_int (fin_bl I q rfl)
  · exact op_eq pins s σ H x y v u Q I rx ry h
theorem ok_init {dvs : List V} (F : FunD K "__init__" "Ratio.__init__" (defArgs sInit) (defBody sInit) (defScope sInit) dvs [] f fd) (T : RTx K mg C CI CQ) :
    FnOk P w K mg base (L2.CX P w) 2 f fd ["self", "top", "bottom"] (spInit K C CI) := by
  refine F.ok scInit (fun vs H Q E h => ?_) (fun cdv A outer s H vs Q E hr h => ?_)
  · obtain ⟨p, dx, x, y, rfl, _⟩ := h
    rfl
  · obtain ⟨p, dx, x, y, rfl, hp, ⟨tx, x1, x2, tyx, kx1, kx2, ex, _⟩, ⟨ty, y1, y2, tyy, ky1, ky2, ey, py⟩, good, bad⟩ := h
    have nd := scInit.nd
    refine ⟨_, pss_cons (ps_if (PW.pt (pw_or (pt_not (pt_val (pe_callB call_isi (by rfl) T.isi (by decide +kernel) (pa_cons (pv 1) (pa_cons (pe_bltn (v := .ty "int") (by rfl) T.int (by decide +kernel) rfl) pa_nil)))))
        (pw_or (pt_not (pt_val (pe_callB call_isi (by rfl) T.isi (by decide +kernel) (pa_cons (pv 2) (pa_cons (pe_bltn (v := .ty "int") (by rfl) T.int (by decide +kernel) rfl) pa_nil))))) (pw_or1 (pt_cmpR op_eq2 (pv 2) pe_int (nomark _))))))
        (pss_one (ps_raise rfl (takes_of rfl rfl rfl rfl) (pmk_own0 PySem.F.excBase_ValueError T.xI T.gI T.kI (raises_own T.bI T.tI) (by rfl)))) pss_nil)
      (pss_cons (ps_if (PW.pt (pw_or (pt_val (pe_callB call_isi (by rfl) T.isi (by decide +kernel) (pa_cons (pv 1) (pa_cons (pe_bltn (v := .ty "bool") (by rfl) T.bool (by decide +kernel) rfl) pa_nil))))
        (pw_or1 (pt_val (pe_callB call_isi (by rfl) T.isi (by decide +kernel) (pa_cons (pv 2) (pa_cons (pe_bltn (v := .ty "bool") (by rfl) T.bool (by decide +kernel) rfl) pa_nil)))))))
        (pss_one (ps_raise rfl (takes_of rfl rfl rfl rfl) (pmk_own0 PySem.F.excBase_ValueError T.xI T.gI T.kI (raises_own T.bI T.tI) (by rfl)))) pss_nil)
      (pss_cons (ps_set (i := 3) nd rfl (Or.inl rfl) (pe_callBfun cr_gcd (by rfl) T.gcd (pa_cons (pv 1) (pa_cons (pv 2) pa_nil))))
      (C8.pss_cut (ps_if (pt_cmpR op_lt (pv 2) pe_int (nomark _)) (pss_one (ps_set (i := 3) nd rfl (Or.inl rfl) (pe_un un_neg (pv 3)))) pss_nil)
      (pss_cons (ps_fld (pv 0) (pe_op op_fdivX (pv 1) (pv 3)) rfl)
      (pss_one (ps_fld (pv 0) (pe_op op_fdivX (pv 2) (pv 3)) rfl)))))), ?_⟩
    show tSeq _ _ _ [some (V.ref p), some x, some y, none] H
    have c1 : Ans _ [some (V.ref p), some x, some y, none] H (!x1) := ans_not (ans_val (val_isi (te := tVar 1) (cv := .ty "int") (val_var rfl) tyx kx1 (.ty _)))
    have c2 : Ans _ [some (V.ref p), some x, some y, none] H (!y1) := ans_not (ans_val (val_isi (te := tVar 2) (cv := .ty "int") (val_var rfl) tyy ky1 (.ty _)))
    have d1 : Ans _ [some (V.ref p), some x, some y, none] H x2 := ans_val (val_isi (te := tVar 1) (cv := .ty "bool") (val_var rfl) tyx kx2 (.ty _))
    have d2 : Ans _ [some (V.ref p), some x, some y, none] H y2 := ans_val (val_isi (te := tVar 2) (cv := .ty "bool") (val_var rfl) tyy ky2 (.ty _))
    cases x1 with
    | false =>
      refine sA_yes (ans_or1 (c1.to rfl)) ?_
      exact bad fun u d e _ => by rw [e] at ex; cases ex
    | true =>
      cases y1 with
      | false =>
        refine sA_yes (ans_or (c1.to rfl) (ans_or1 (c2.to rfl))) ?_
        exact bad fun u d _ e => by rw [e] at ey; cases ey
      | true =>
        rcases py rfl with ⟨d, rfl⟩ | ⟨k, rfl⟩
        · by_cases d0 : d = 0
          · refine sA_yes (ans_or (c1.to rfl) (ans_or (c2.to rfl) (ans_cmp (b := true) (val_var rfl) val_c fun Q q => .inr ⟨rfl, by rw [d0]; exact q⟩))) ?_
            exact bad fun u' d' _ e => by cases e; exact d0
          · refine sA_no (ans_or (c1.to rfl) (ans_or (c2.to rfl) (ans_cmp (b := false) (val_var rfl) val_c fun Q q => .inr ⟨rfl, by rw [decide_eq_false fun e => d0 (by cases e; rfl)]; exact q⟩))) ?_
            have hy2 : y2 = false := by cases y2 with | false => rfl | true => cases ey
            subst hy2
            cases x2 with
            | true =>
              refine sA_yes (ans_or1 d1) ?_
              exact bad fun u d e _ => by rw [e] at ex; cases ex
            | false =>
              obtain ⟨u, rfl⟩ := intV_int ex.symm
              refine sA_no (ans_or d1 d2) ?_
              obtain ⟨bu, bd, q⟩ := good u d rfl rfl d0
              refine sA_set (fun Q q => ⟨_, rfl, _, rfl, u, d, rfl, q⟩) ?_
              refine ⟨fun σ H' => σ = [some (V.ref p), some (V.int u), some (V.int d), some (V.int (gc u d))] ∧ H' = H, ?_, ?_⟩
              · by_cases hd : d < 0
                · refine st_yes (ans_cmp (val_var rfl) val_c fun Q q => ⟨_, _, rfl, rfl, (show Q (.bl (decide (d < 0))) H by rw [decide_eq_true hd]; exact q)⟩) ?_
                  refine st_set (fun Q q => ⟨_, rfl, _, rfl, q⟩) ⟨?_, rfl⟩
                  unfold gc
                  rw [if_pos hd]
                  rfl
                · refine st_no (ans_cmp (val_var rfl) val_c fun Q q => ⟨_, _, rfl, rfl, (show Q (.bl (decide (d < 0))) H by rw [decide_eq_false hd]; exact q)⟩) ⟨?_, rfl⟩
                  unfold gc
                  rw [if_neg hd]
                  rfl
              · rintro σ H' ⟨rfl, rfl⟩
                have cd : CDivX u (gc u d) := div_x (gc_ne d0) (gc_le d0 bd) (by decide) (by decide)
                refine ⟨_, rfl, _, rfl, _, _, rfl, rfl, cd, _, rfl, p, C, dx, [], rfl, hp, T.cl, T.nT, (by show 0 < 1000; decide), ?_⟩
                refine ⟨_, rfl, _, rfl, _, _, rfl, rfl, (show CDivX d (gc u d) from cd), _, rfl, p, C, dx, _, rfl, upd_same, T.cl, T.nB, (by show 1 < 1000; decide), ?_⟩
                rw [upd_upd]
                rw [flds_put]
                exact q
        · cases k with
          | false =>
            refine sA_yes (ans_or (c1.to rfl) (ans_or (c2.to rfl) (ans_cmp (b := true) (val_var rfl) val_c fun Q q => .inl ⟨_, _, rfl, rfl, q⟩))) ?_
            exact bad fun u' d' _ e => by cases e
          | true =>
            refine sA_no (ans_or (c1.to rfl) (ans_or (c2.to rfl) (ans_cmp (b := false) (val_var rfl) val_c fun Q q => .inl ⟨_, _, rfl, rfl, q⟩))) ?_
            have hy2 : y2 = true := by cases y2 with | true => rfl | false => cases ey
            subst hy2
            cases x2 with
            | true =>
              refine sA_yes (ans_or1 d1) ?_
              exact bad fun u d e _ => by rw [e] at ex; cases ex
            | false =>
              refine sA_yes (ans_or d1 d2) ?_
              exact bad fun u d _ e => by cases e
end
end B2
set_option maxRecDepth 100000
set_option maxHeartbeats 4000000
set_option exponentiation.threshold 10000
namespace B2
open PySem PySem.Spec PyProof.Rows L2 RX LP
theorem TyX_grow {K : PySem.W.Frag} {H H' : Hp} {x : V} {t : Value} (h : TyX K H x t) (g : Grow H H') : TyX K H' x t := by
  cases h with
  | base h =>
    cases h with
    | non => exact .base .non
    | bl b => exact .base (.bl b)
    | int i => exact .base (.int i)
    | str x => exact .base (.str x)
    | flt x => exact .base (.flt x)
    | lst e => exact .base (.lst (g _ _ e))
    | frz e => exact .base (.frz (g _ _ e))
    | tup e => exact .base (.tup (g _ _ e))
    | dK e => exact .base (.dK (g _ _ e))
    | dT e => exact .base (.dT (g _ _ e))
    | ins e cl ha hn ht hm => exact .base (.ins (g _ _ e) cl ha hn ht hm)
  | byt b => exact .byt b
  | set e => exact .set (g _ _ e)
  | kList e c => exact .kList e c
  | kTuple e c => exact .kTuple e c
  | kDict e c => exact .kDict e c
  | fTuple e => exact .fTuple (g _ _ e)
  | fDict e => exact .fDict (g _ _ e)
theorem _root_.RX.KI.grow {K : PySem.W.Frag} {H H' : Hp} {x : V} (h : KI K H x) (g : Grow H H') : KI K H' x := by
  obtain ⟨t, b1, b2, ty, k⟩ := h
  exact ⟨t, b1, b2, TyX_grow ty g, k⟩
theorem _root_.RX.KR.grow {K : PySem.W.Frag} {C : Addr} {H H' : Hp} {x : V} {r : Bool} (h : KR K C H x r) (g : Grow H H') : KR K C H' x r := by
  obtain ⟨t, ty, k⟩ := h
  exact ⟨t, TyX_grow ty g, k⟩
def Sz (i : Int) : Prop := i.natAbs < 2 ^ 1000
theorem sz_mul {i j : Int} (a : Sz i) (b : Sz j) : CMulW i j := wide_mul a b (by decide) (by decide) (by decide)
theorem sz_mul2 {i j : Int} (a : Sz i) (b : Sz j) : (i * j).natAbs < 2 ^ 2000 := wide_lt a b
theorem lt_grow {n a b : Nat} (h : n < 2 ^ a) (hab : a ≤ b) : n < 2 ^ b := Nat.lt_of_lt_of_le h (Nat.pow_le_pow_right (by decide) hab)
theorem add_lt {i j : Int} (a : i.natAbs < 2 ^ 2000) (b : j.natAbs < 2 ^ 2000) : (i + j).natAbs < 2 ^ 4000 := by
  have h : (i + j).natAbs < 2 ^ 2001 := by
    have e : 2 ^ 2001 = 2 ^ 2000 + 2 ^ 2000 := by rw [Nat.pow_succ, Nat.mul_two]
    generalize 2 ^ 2000 = m at *
    omega
  exact lt_grow h (by decide)
theorem sub_lt {i j : Int} (a : i.natAbs < 2 ^ 2000) (b : j.natAbs < 2 ^ 2000) : (i - j).natAbs < 2 ^ 4000 := by
  have h : (i - j).natAbs < 2 ^ 2001 := by
    have e : 2 ^ 2001 = 2 ^ 2000 + 2 ^ 2000 := by rw [Nat.pow_succ, Nat.mul_two]
    generalize 2 ^ 2000 = m at *
    omega
  exact lt_grow h (by decide)
section
variable {K : PySem.W.Frag} {C CI : Addr} {σ : L2.St} {H : Hp} {ta tb : TE} {u d : Int} {E : XK} {Q : VK}
theorem grow_make {x dx : Addr} {o : HO} (nx : H x = none) (ndx : H dx = none) (ne : dx ≠ x) : Grow H (upd (upd (upd H dx (.own x)) x (.ins C dx [])) x o) := fun b u e => by
  rw [upd_upd, upd_ne (ne_of_none e nx), upd_ne (ne_of_none e ndx)]
  exact e
/-- Ratio(u, d) where both are integers, d not 0 -/
theorem mk_int (ha : Val ta σ H (.int u)) (hb : Val tb σ H (.int d)) (d0 : d ≠ 0) (bu : u.natAbs < 2 ^ 4000) (bd : d.natAbs < 2 ^ 4000) (q : ∀ v H', Grow H H' → RatP C (tp u d) (bt u d) v H' → Q v H') :
    tMake C (spInit K C CI) [] E (tCons ta (tCons tb tNil)) σ H Q := ha _ (hb _ fun x dx nx ndx ne => ⟨x, dx, .int u, .int d, rfl, upd_same, ki_int u, ki_int d, fun u' d' e1 e2 _ => by
      cases e1
      cases e2
      exact ⟨bu, bd, rfl, q _ _ (grow_make nx ndx ne) ⟨x, dx, rfl, upd_same⟩⟩, fun k => absurd (k u d rfl rfl) d0⟩)
theorem grow_new2 {x dx : Addr} (nx : H x = none) (ndx : H dx = none) (ne : dx ≠ x) : Grow H (upd (upd H dx (.own x)) x (.ins C dx [])) := fun b u e => by
  rw [upd_ne (ne_of_none e nx), upd_ne (ne_of_none e ndx)]
  exact e
end
/-- a def of two fractions that gives one -/
def spBin (C : Addr) (g : Int → Int → Int → Int → Int × Int) : Sp := fun vs H Q _ => ∃ a dx b dy t1 b1 t2 b2, vs = [.ref a, .ref b] ∧ H a = some (.ins C dx (flds t1 b1)) ∧ H b = some (.ins C dy (flds t2 b2)) ∧ b1 ≠ 0 ∧ b2 ≠ 0 ∧ Sz t1 ∧ Sz b1 ∧ Sz t2 ∧ Sz b2 ∧
  ∀ v H', Grow H H' → RatP C (tp (g t1 b1 t2 b2).1 (g t1 b1 t2 b2).2) (bt (g t1 b1 t2 b2).1 (g t1 b1 t2 b2).2) v H' → Q v H'
abbrev gAdd : Int → Int → Int → Int → Int × Int := fun t1 b1 t2 b2 => (t1 * b2 + t2 * b1, b1 * b2)
abbrev gSub : Int → Int → Int → Int → Int × Int := fun t1 b1 t2 b2 => (t1 * b2 - t2 * b1, b1 * b2)
abbrev gMul : Int → Int → Int → Int → Int × Int := fun t1 b1 t2 b2 => (t1 * t2, b1 * b2)
def spNeg (C : Addr) : Sp := fun vs H Q _ => ∃ a dx t b, vs = [.ref a] ∧ H a = some (.ins C dx (flds t b)) ∧ b ≠ 0 ∧ Sz t ∧ Sz b ∧ ∀ v H', Grow H H' → RatP C (tp (-t) b) (bt (-t) b) v H' → Q v H'
def spUnder (C : Addr) : Sp := fun vs H Q _ => ∃ a dx b dy t1 b1 t2 b2, vs = [.ref a, .ref b] ∧ H a = some (.ins C dx (flds t1 b1)) ∧ H b = some (.ins C dy (flds t2 b2)) ∧ Sz t1 ∧ Sz b1 ∧ Sz t2 ∧ Sz b2 ∧ Q (.bl (decide (t1 * b2 < t2 * b1))) H
def spBool (C : Addr) : Sp := fun vs H Q _ => ∃ a dx t b, vs = [.ref a] ∧ H a = some (.ins C dx (flds t b)) ∧ Q (.bl (t != 0)) H
def spEq (K : PySem.W.Frag) (C : Addr) : Sp := fun vs H Q _ => ∃ a dx t1 b1 y r, vs = [.ref a, y] ∧ H a = some (.ins C dx (flds t1 b1)) ∧ KR K C H y r ∧ (r = false → Q (.bl false) H) ∧ (r = true → ∃ b dy t2 b2, y = .ref b ∧ H b = some (.ins C dy (flds t2 b2)) ∧ Q (.bl (decide (t1 = t2) && decide (b1 = b2))) H)
def spOver (C CQ : Addr) : Sp := fun vs H Q E => ∃ a dx b dy t1 b1 t2 b2, vs = [.ref a, .ref b] ∧ H a = some (.ins C dx (flds t1 b1)) ∧ H b = some (.ins C dy (flds t2 b2)) ∧ b1 ≠ 0 ∧ Sz t1 ∧ Sz b1 ∧ Sz t2 ∧ Sz b2 ∧
  (t2 = 0 → E (.ref CQ) none H) ∧ (t2 ≠ 0 → ∀ v H', Grow H H' → RatP C (tp (t1 * b2) (b1 * t2)) (bt (t1 * b2) (b1 * t2)) v H' → Q v H')
def spOf (K : PySem.W.Frag) (C CI : Addr) : Sp := fun vs H Q E => ∃ x r, vs = [.ref C, x] ∧ KR K C H x r ∧ KI K H x ∧ (r = true → Q x H) ∧ (r = false → ∀ u, x = .int u → u.natAbs < 2 ^ 4000 ∧ ∀ v H', Grow H H' → RatP C (tp u 1) (bt u 1) v H' → Q v H') ∧
  (r = false → (∀ u, x ≠ .int u) → ∀ H', Grow H H' → E (.ref CI) none H')
abbrev psI : List Str := ["self", "top", "bottom"]
/-- the class's own maker -/
structure RMk (P : Program) (w : World) (K : PySem.W.Frag) (mg : Str → Option Value) (base : Heap) (C CI fI : Addr) (fdI : FuncData) : Prop where
  mkc : Mk K C fI
  ok : FnOk P w K mg base (L2.CX P w) 2 fI fdI psI (spInit K C CI)
  b2 : Binds K fdI psI []
  b1 : ∃ ds, Vals [V.int 1] ds ∧ Binds K fdI psI ds
section
variable {P : Program} {w : World} {K : PySem.W.Frag} {mg : Str → Option Value} {base : Heap} {C CI CQ f fI : Addr} {fd fdI : FuncData}
theorem scAdd : FnScope ["self", "other"] ["self", "other"] (defScope sAdd) := ⟨rfl, rfl, rfl, by decide +kernel, rfl, by decide +kernel, by decide +kernel⟩
theorem scSub : FnScope ["self", "other"] ["self", "other"] (defScope sSub) := ⟨rfl, rfl, rfl, by decide +kernel, rfl, by decide +kernel, by decide +kernel⟩
theorem scMul : FnScope ["self", "other"] ["self", "other"] (defScope sMul) := ⟨rfl, rfl, rfl, by decide +kernel, rfl, by decide +kernel, by decide +kernel⟩
theorem scNeg : FnScope ["self"] ["self"] (defScope sNeg) := ⟨rfl, rfl, rfl, by decide +kernel, rfl, by decide +kernel, by decide +kernel⟩
theorem scEq : FnScope ["self", "other"] ["self", "other"] (defScope sEq) := ⟨rfl, rfl, rfl, by decide +kernel, rfl, by decide +kernel, by decide +kernel⟩
theorem scBool : FnScope ["self"] ["self"] (defScope sBool) := ⟨rfl, rfl, rfl, by decide +kernel, rfl, by decide +kernel, by decide +kernel⟩
theorem scUnder : FnScope ["self", "other"] ["self", "other"] (defScope sUnder) := ⟨rfl, rfl, rfl, by decide +kernel, rfl, by decide +kernel, by decide +kernel⟩
theorem scOver : FnScope ["self", "other"] ["self", "other"] (defScope sOver) := ⟨rfl, rfl, rfl, by decide +kernel, rfl, by decide +kernel, by decide +kernel⟩
theorem scOf : FnScope ["cls", "number"] ["cls", "number"] (defScope sOf) := ⟨rfl, rfl, rfl, by decide +kernel, rfl, by decide +kernel, by decide +kernel⟩
variable (T : RTx K mg C CI CQ)
include T
theorem v_top {σ : L2.St} {H : Hp} {i : Nat} {a dx : Addr} {t b : Int} (h : σ[i]? = some (some (.ref a))) (e : H a = some (.ins C dx (flds t b))) : Val (tFld K (tVar i) "top") σ H (.int t) := val_fld (val_var h) e T.cl T.nT flds_top
theorem v_bot {σ : L2.St} {H : Hp} {i : Nat} {a dx : Addr} {t b : Int} (h : σ[i]? = some (some (.ref a))) (e : H a = some (.ins C dx (flds t b))) : Val (tFld K (tVar i) "bottom") σ H (.int b) := val_fld (val_var h) e T.cl T.nB flds_bot
omit T in
theorem v_mul {σ : L2.St} {H : Hp} {ta tb : TE} {i j : Int} (ha : Val ta σ H (.int i)) (hb : Val tb σ H (.int j)) (si : Sz i) (sj : Sz j) : Val (tOp (rI CMulW fun i j => V.int (i * j)) ta tb) σ H (.int (i * j)) := val_op ha hb fun Q q => ⟨_, _, rfl, rfl, sz_mul si sj, q⟩
theorem ok_add (F : Fun K "__add__" "Ratio.__add__" sAdd f fd) (R : RMk P w K mg base C CI fI fdI) : FnOk P w K mg base CX0 4 f fd ["self", "other"] (spBin C gAdd) := by
  refine F.ok scAdd (fun vs H Q E h => ?_) (fun cdv A outer s H vs Q E hr h => ?_)
  · obtain ⟨a, dx, b, dy, t1, b1, t2, b2, rfl, _⟩ := h
    rfl
  · obtain ⟨a, dx, b, dy, t1, b1, t2, b2, rfl, ea, eb, n1, n2, s1, s2, s3, s4, q⟩ := h
    refine ⟨_, pss_one (ps_ret (pe_make R.mkc R.ok hr (by rfl) T.gR R.b2 .nil passL (pa_cons (pe_op op_add (pe_op op_mulW (pe_fld (pv 0) rfl) (pe_fld (pv 1) rfl)) (pe_op op_mulW (pe_fld (pv 1) rfl) (pe_fld (pv 0) rfl)))
      (pa_cons (pe_op op_mulW (pe_fld (pv 0) rfl) (pe_fld (pv 1) rfl)) pa_nil)))), ?_⟩
    exact mk_int (val_op (v_mul (v_top T rfl ea) (v_bot T rfl eb) s1 s4) (v_mul (v_top T rfl eb) (v_bot T rfl ea) s3 s2) fun Q q => ⟨_, _, rfl, rfl, q⟩) (v_mul (v_bot T rfl ea) (v_bot T rfl eb) s2 s4) (Int.mul_ne_zero n1 n2)
      (add_lt (sz_mul2 s1 s4) (sz_mul2 s3 s2)) (lt_grow (sz_mul2 s2 s4) (by decide)) q
theorem ok_sub (F : Fun K "__sub__" "Ratio.__sub__" sSub f fd) (R : RMk P w K mg base C CI fI fdI) : FnOk P w K mg base CX0 4 f fd ["self", "other"] (spBin C gSub) := by
  refine F.ok scSub (fun vs H Q E h => ?_) (fun cdv A outer s H vs Q E hr h => ?_)
  · obtain ⟨a, dx, b, dy, t1, b1, t2, b2, rfl, _⟩ := h
    rfl
  · obtain ⟨a, dx, b, dy, t1, b1, t2, b2, rfl, ea, eb, n1, n2, s1, s2, s3, s4, q⟩ := h
    refine ⟨_, pss_one (ps_ret (pe_make R.mkc R.ok hr (by rfl) T.gR R.b2 .nil passL (pa_cons (pe_op op_sub (pe_op op_mulW (pe_fld (pv 0) rfl) (pe_fld (pv 1) rfl)) (pe_op op_mulW (pe_fld (pv 1) rfl) (pe_fld (pv 0) rfl)))
      (pa_cons (pe_op op_mulW (pe_fld (pv 0) rfl) (pe_fld (pv 1) rfl)) pa_nil)))), ?_⟩
    exact mk_int (val_op (v_mul (v_top T rfl ea) (v_bot T rfl eb) s1 s4) (v_mul (v_top T rfl eb) (v_bot T rfl ea) s3 s2) fun Q q => ⟨_, _, rfl, rfl, q⟩) (v_mul (v_bot T rfl ea) (v_bot T rfl eb) s2 s4) (Int.mul_ne_zero n1 n2)
      (sub_lt (sz_mul2 s1 s4) (sz_mul2 s3 s2)) (lt_grow (sz_mul2 s2 s4) (by decide)) q
theorem ok_mul (F : Fun K "__mul__" "Ratio.__mul__" sMul f fd) (R : RMk P w K mg base C CI fI fdI) : FnOk P w K mg base CX0 4 f fd ["self", "other"] (spBin C gMul) := by
  refine F.ok scMul (fun vs H Q E h => ?_) (fun cdv A outer s H vs Q E hr h => ?_)
  · obtain ⟨a, dx, b, dy, t1, b1, t2, b2, rfl, _⟩ := h
    rfl
  · obtain ⟨a, dx, b, dy, t1, b1, t2, b2, rfl, ea, eb, n1, n2, s1, s2, s3, s4, q⟩ := h
    refine ⟨_, pss_one (ps_ret (pe_make R.mkc R.ok hr (by rfl) T.gR R.b2 .nil passL (pa_cons (pe_op op_mulW (pe_fld (pv 0) rfl) (pe_fld (pv 1) rfl))
      (pa_cons (pe_op op_mulW (pe_fld (pv 0) rfl) (pe_fld (pv 1) rfl)) pa_nil)))), ?_⟩
    exact mk_int (v_mul (v_top T rfl ea) (v_top T rfl eb) s1 s3) (v_mul (v_bot T rfl ea) (v_bot T rfl eb) s2 s4) (Int.mul_ne_zero n1 n2)
      (lt_grow (sz_mul2 s1 s3) (by decide)) (lt_grow (sz_mul2 s2 s4) (by decide)) q
theorem ok_neg (F : Fun K "__neg__" "Ratio.__neg__" sNeg f fd) (R : RMk P w K mg base C CI fI fdI) : FnOk P w K mg base CX0 4 f fd ["self"] (spNeg C) := by
  refine F.ok scNeg (fun vs H Q E h => ?_) (fun cdv A outer s H vs Q E hr h => ?_)
  · obtain ⟨a, dx, t, b, rfl, _⟩ := h
    rfl
  · obtain ⟨a, dx, t, b, rfl, ea, n1, s1, s2, q⟩ := h
    refine ⟨_, pss_one (ps_ret (pe_make R.mkc R.ok hr (by rfl) T.gR R.b2 .nil passL (pa_cons (pe_un un_neg (pe_fld (pv 0) rfl)) (pa_cons (pe_fld (pv 0) rfl) pa_nil)))), ?_⟩
    exact mk_int (fun Q q => v_top T rfl ea _ ⟨_, rfl, q⟩) (v_bot T rfl ea) n1 (lt_grow (show (-t).natAbs < 2 ^ 1000 by rw [Int.natAbs_neg]; exact s1) (by decide)) (lt_grow s2 (by decide)) q
theorem ok_under (F : Fun K "under" "Ratio.under" sUnder f fd) : FnOk P w K mg base CX0 1 f fd ["self", "other"] (spUnder C) := by
  refine F.ok scUnder (fun vs H Q E h => ?_) (fun cdv A outer s H vs Q E hr h => ?_)
  · obtain ⟨a, dx, b, dy, t1, b1, t2, b2, rfl, _⟩ := h
    rfl
  · obtain ⟨a, dx, b, dy, t1, b1, t2, b2, rfl, ea, eb, s1, s2, s3, s4, q⟩ := h
    refine ⟨_, pss_one (ps_ret (pe_cmpR op_lt (pe_op op_mulW (pe_fld (pv 0) rfl) (pe_fld (pv 1) rfl)) (pe_op op_mulW (pe_fld (pv 1) rfl) (pe_fld (pv 0) rfl)) (nomark _))), ?_⟩
    exact val_op (v_mul (v_top T rfl ea) (v_bot T rfl eb) s1 s4) (v_mul (v_top T rfl eb) (v_bot T rfl ea) s3 s2) (fun Q q => ⟨_, _, rfl, rfl, q⟩) _ q
theorem ok_bool (F : Fun K "__bool__" "Ratio.__bool__" sBool f fd) : FnOk P w K mg base CX0 1 f fd ["self"] (spBool C) := by
  refine F.ok scBool (fun vs H Q E h => ?_) (fun cdv A outer s H vs Q E hr h => ?_)
  · obtain ⟨a, dx, t, b, rfl, _⟩ := h
    rfl
  · obtain ⟨a, dx, t, b, rfl, ea, q⟩ := h
    refine ⟨_, pss_one (ps_ret (pe_callTy call_bool1 (by rfl) T.bool (by decide +kernel) (pa_cons (pe_fld (pv 0) rfl) pa_nil))), ?_⟩
    exact v_top T rfl ea _ (.inl ⟨_, rfl, q⟩)
theorem ok_eq (F : Fun K "__eq__" "Ratio.__eq__" sEq f fd) : FnOk P w K mg base CX0 1 f fd ["self", "other"] (spEq K C) := by
  refine F.ok scEq (fun vs H Q E h => ?_) (fun cdv A outer s H vs Q E hr h => ?_)
  · obtain ⟨a, dx, t1, b1, y, r, rfl, _⟩ := h
    rfl
  · obtain ⟨a, dx, t1, b1, y, r, rfl, ea, ⟨t, ty, kr⟩, no, yes⟩ := h
    refine ⟨_, pss_one (ps_ret (pe_and (pe_callB call_isi (by rfl) T.isi (by decide +kernel) (pa_cons (pv 1) (pa_cons (pe_glob (v := .ref C) (by rfl) T.gR rfl) pa_nil)))
      (pe_and (pe_cmpR op_eq (pe_fld (pv 0) rfl) (pe_fld (pv 1) rfl) (nomark _)) (pe_one (pe_cmpR op_eq (pe_fld (pv 0) rfl) (pe_fld (pv 1) rfl) (nomark _)))))), ?_⟩
    refine val_isi (val_var rfl) ty kr (.own C) _ ⟨r, rfl, ?_⟩
    cases r with
    | false => exact no rfl
    | true =>
      obtain ⟨b, dy, t2, b2, rfl, eb, q⟩ := yes rfl
      refine iteT (val_and (b := decide (t1 = t2)) (c := decide (b1 = b2)) (val_op (v_top T rfl ea) (v_top T rfl eb) fun Q q => ⟨rfl, ?_⟩) (fun _ => val_op (v_bot T rfl ea) (v_bot T rfl eb) fun Q q => ⟨rfl, ?_⟩) _ q)
      · rw [show decide (V.int t1 = V.int t2) = decide (t1 = t2) from decide_eq_decide.mpr ⟨fun e => by cases e; rfl, fun e => by rw [e]⟩]
        exact q
      · rw [show decide (V.int b1 = V.int b2) = decide (b1 = b2) from decide_eq_decide.mpr ⟨fun e => by cases e; rfl, fun e => by rw [e]⟩]
        exact q
theorem ok_over (F : Fun K "over" "Ratio.over" sOver f fd) (R : RMk P w K mg base C CI fI fdI) : FnOk P w K mg base (L2.CX P w) 4 f fd ["self", "other"] (spOver C CQ) := by
  refine F.okX scOver (fun vs H Q E h => ?_) (fun cdv A outer s H vs Q E hr h => ?_)
  · obtain ⟨a, dx, b, dy, t1, b1, t2, b2, rfl, _⟩ := h
    rfl
  · obtain ⟨a, dx, b, dy, t1, b1, t2, b2, rfl, ea, eb, n1, s1, s2, s3, s4, zero, q⟩ := h
    refine ⟨_, pss_cons (ps_if (pt_cmpR op_eq (pe_fld (pv 1) rfl) pe_int (nomark _)) (pss_one (ps_raise rfl (takes_of rfl rfl rfl rfl) (pmk_own0 PySem.F.excBase_ValueError T.xQ T.gQ T.kQ (raises_own T.bQ T.tQ) (by rfl)))) pss_nil)
      (pss_one (ps_ret (pe_make R.mkc R.ok hr (by rfl) T.gR R.b2 .nil passL (pa_cons (pe_op op_mulW (pe_fld (pv 0) rfl) (pe_fld (pv 1) rfl)) (pa_cons (pe_op op_mulW (pe_fld (pv 0) rfl) (pe_fld (pv 1) rfl)) pa_nil))))), ?_⟩
    show tSeq _ _ _ [some (V.ref a), some (V.ref b)] H
    by_cases h0 : t2 = 0
    · refine sA_yes (ans_eq (v_top T rfl eb) val_c rfl (by rw [h0]; rfl)) ?_
      exact zero h0
    · refine sA_no (ans_eq (b := false) (v_top T rfl eb) val_c rfl (decide_eq_false fun e => h0 (by cases e; rfl))) ?_
      exact mk_int (v_mul (v_top T rfl ea) (v_bot T rfl eb) s1 s4) (v_mul (v_bot T rfl ea) (v_top T rfl eb) s2 s3) (Int.mul_ne_zero n1 h0) (lt_grow (sz_mul2 s1 s4) (by decide)) (lt_grow (sz_mul2 s2 s3) (by decide)) (q h0)
theorem ok_of (F : Fun K "of" "Ratio.of" sOf f fd) (R : RMk P w K mg base C CI fI fdI) : FnOk P w K mg base (L2.CX P w) 4 f fd ["cls", "number"] (spOf K C CI) := by
  refine F.okX scOf (fun vs H Q E h => ?_) (fun cdv A outer s H vs Q E hr h => ?_)
  · obtain ⟨x, r, rfl, _⟩ := h
    rfl
  · obtain ⟨x, r, rfl, ⟨t, ty, kr⟩, ki, yes, int, odd⟩ := h
    obtain ⟨ds, hd, b1⟩ := R.b1
    refine ⟨_, pss_cons (ps_if (pt_val (pe_callB call_isi (by rfl) T.isi (by decide +kernel) (pa_cons (pv 1) (pa_cons (pe_glob (v := .ref C) (by rfl) T.gR rfl) pa_nil)))) (pss_one (ps_ret (pv 1))) pss_nil)
      (pss_one (ps_ret (pe_make R.mkc R.ok hr (by rfl) T.gR b1 hd (passes_call (E := E) (takes_of rfl rfl rfl rfl) fun _ _ _ _ z => z) (pa_cons (pv 1) pa_nil)))), ?_⟩
    show tSeq _ _ _ [some (V.ref C), some x] H
    cases r with
    | true => exact sA_yes (ans_val (val_isi (val_var rfl) ty kr (.own C))) (st_ret (val_var rfl) (yes rfl))
    | false =>
      refine sA_no (ans_val (val_isi (val_var rfl) ty kr (.own C))) ?_
      refine ⟨x, rfl, fun a dx na nd ne => ⟨a, dx, x, .int 1, rfl, upd_same, ?_, ki_int 1, fun u d e1 e2 _ => ?_, fun k => ?_⟩⟩
      · exact ki.grow (grow_new2 na nd ne)
      · cases e2
        obtain ⟨bu, q⟩ := int rfl u e1
        exact ⟨bu, by decide, rfl, q _ _ (grow_make na nd ne) ⟨a, dx, rfl, upd_same⟩⟩
      · exact odd rfl (fun u e => absurd (k u 1 e rfl) (by decide)) _ (grow_new2 na nd ne)
end
end B2
/-! Lowest terms: mathematics. -/
namespace RX
theorem gc_dvd_u (u d : Int) : gc u d ∣ u := by
  have h : ((Nat.gcd u.natAbs d.natAbs : Nat) : Int) ∣ u := Int.ofNat_dvd_left.mpr (Nat.gcd_dvd_left _ _)
  unfold gc
  split
  · exact Int.neg_dvd.mpr h
  · exact h
theorem gc_dvd_d (u d : Int) : gc u d ∣ d := by
  have h : ((Nat.gcd u.natAbs d.natAbs : Nat) : Int) ∣ d := Int.ofNat_dvd_left.mpr (Nat.gcd_dvd_right _ _)
  unfold gc
  split
  · exact Int.neg_dvd.mpr h
  · exact h
theorem u_eq (u d : Int) : gc u d * tp u d = u := by
  unfold tp
  rw [Int.fdiv_eq_ediv_of_dvd (gc_dvd_u u d), Int.mul_ediv_cancel' (gc_dvd_u u d)]
theorem d_eq (u d : Int) : gc u d * bt u d = d := by
  unfold bt
  rw [Int.fdiv_eq_ediv_of_dvd (gc_dvd_d u d), Int.mul_ediv_cancel' (gc_dvd_d u d)]
theorem gc_abs (u d : Int) : (gc u d).natAbs = Nat.gcd u.natAbs d.natAbs := by
  unfold gc
  split <;> omega
theorem bt_pos {u d : Int} (h : d ≠ 0) : 0 < bt u d := by
  have e := d_eq u d
  have g := gcd_pos (u := u) h
  rcases Int.lt_trichotomy (bt u d) 0 with z | z | z
  · by_cases hd : d < 0
    · have c : gc u d < 0 := by unfold gc; rw [if_pos hd]; omega
      have := Int.mul_pos_of_neg_of_neg c z
      omega
    · have c : 0 < gc u d := by unfold gc; rw [if_neg hd]; omega
      have := Int.mul_neg_of_pos_of_neg c z
      omega
  · rw [z, Int.mul_zero] at e
    exact absurd e.symm h
  · exact z
theorem low_cop {u d : Int} (h : d ≠ 0) : Nat.Coprime (tp u d).natAbs (bt u d).natAbs := by
  have g := gcd_pos (u := u) h
  have e1 : (gc u d).natAbs * (tp u d).natAbs = u.natAbs := by rw [← Int.natAbs_mul, u_eq]
  have e2 : (gc u d).natAbs * (bt u d).natAbs = d.natAbs := by rw [← Int.natAbs_mul, d_eq]
  rw [gc_abs] at e1 e2
  have e : Nat.gcd (Nat.gcd u.natAbs d.natAbs * (tp u d).natAbs) (Nat.gcd u.natAbs d.natAbs * (bt u d).natAbs) = Nat.gcd u.natAbs d.natAbs := by rw [e1, e2]
  rw [Nat.gcd_mul_left] at e
  have e' : Nat.gcd u.natAbs d.natAbs * Nat.gcd (tp u d).natAbs (bt u d).natAbs = Nat.gcd u.natAbs d.natAbs * 1 := by rw [e, Nat.mul_one]
  exact Nat.eq_of_mul_eq_mul_left g e'
theorem low_cross (u d : Int) : tp u d * d = u * bt u d := by
  have e1 := u_eq u d
  have e2 := d_eq u d
  generalize gc u d = c at *
  generalize tp u d = t at *
  generalize bt u d = b at *
  subst e1 e2
  rw [Int.mul_comm c t, Int.mul_assoc]
/-- two pairs in lowest terms with the same quotient are the same -/
theorem low_uniq {t b t' b' : Int} (hb : 0 < b) (hb' : 0 < b') (c : Nat.Coprime t.natAbs b.natAbs) (c' : Nat.Coprime t'.natAbs b'.natAbs) (e : t * b' = t' * b) : t = t' ∧ b = b' := by
  have en : t.natAbs * b'.natAbs = t'.natAbs * b.natAbs := by rw [← Int.natAbs_mul, ← Int.natAbs_mul, e]
  have h1 : b.natAbs ∣ b'.natAbs := c.symm.dvd_of_dvd_mul_left (en ▸ Nat.dvd_mul_left _ _)
  have h2 : b'.natAbs ∣ b.natAbs := c'.symm.dvd_of_dvd_mul_left (en ▸ Nat.dvd_mul_left _ _)
  have h3 := Nat.dvd_antisymm h1 h2
  have eb : b = b' := by omega
  subst eb
  exact ⟨Int.eq_of_mul_eq_mul_right (by omega) e, rfl⟩
theorem low_eq {u d u' d' : Int} (h : d ≠ 0) (h' : d' ≠ 0) (e : u * d' = u' * d) : tp u d = tp u' d' ∧ bt u d = bt u' d' := by
  refine low_uniq (bt_pos h) (bt_pos h') (low_cop h) (low_cop h') ?_
  have x := low_cross u d
  have x' := low_cross u' d'
  have k : (tp u d * bt u' d') * (d * d') = (tp u' d' * bt u d) * (d * d') := by
    calc (tp u d * bt u' d') * (d * d') = (tp u d * d) * (bt u' d' * d') := by ac_rfl
      _ = (u * bt u d) * (bt u' d' * d') := by rw [x]
      _ = (u * d') * (bt u d * bt u' d') := by ac_rfl
      _ = (u' * d) * (bt u d * bt u' d') := by rw [e]
      _ = (u' * bt u' d') * (bt u d * d) := by ac_rfl
      _ = (tp u' d' * d') * (bt u d * d) := by rw [x']
      _ = (tp u' d' * bt u d) * (d * d') := by ac_rfl
  exact Int.eq_of_mul_eq_mul_right (Int.mul_ne_zero h h') k
theorem low_iff {u d u' d' : Int} (h : d ≠ 0) (h' : d' ≠ 0) : (tp u d = tp u' d' ∧ bt u d = bt u' d') ↔ u * d' = u' * d := by
  refine ⟨fun ⟨a, b⟩ => ?_, low_eq h h'⟩
  have x := low_cross u d
  have x' := low_cross u' d'
  rw [a, b] at x
  have nb : bt u' d' ≠ 0 := Int.ne_of_gt (bt_pos h')
  refine Int.eq_of_mul_eq_mul_right nb ?_
  calc u * d' * bt u' d' = (u * bt u' d') * d' := by ac_rfl
    _ = (tp u' d' * d) * d' := by rw [← x]
    _ = (tp u' d' * d') * d := by ac_rfl
    _ = u' * bt u' d' * d := by rw [x']
    _ = u' * d * bt u' d' := by ac_rfl
theorem tp_le (u d : Int) : (tp u d).natAbs ≤ u.natAbs := by
  by_cases z : gc u d = 0
  · unfold tp
    rw [z, Int.fdiv_zero]
    exact Nat.zero_le _
  · have e : (gc u d).natAbs * (tp u d).natAbs = u.natAbs := by rw [← Int.natAbs_mul, u_eq]
    rw [← e]
    exact Nat.le_mul_of_pos_left _ (by omega)
theorem bt_le (u d : Int) : (bt u d).natAbs ≤ d.natAbs := by
  by_cases z : gc u d = 0
  · unfold bt
    rw [z, Int.fdiv_zero]
    exact Nat.zero_le _
  · have e : (gc u d).natAbs * (bt u d).natAbs = d.natAbs := by rw [← Int.natAbs_mul, d_eq]
    rw [← e]
    exact Nat.le_mul_of_pos_left _ (by omega)
theorem tp_zero {u d : Int} (h : d ≠ 0) : tp u d = 0 ↔ u = 0 := by
  have e := u_eq u d
  constructor
  · intro z
    rw [z, Int.mul_zero] at e
    exact e.symm
  · intro z
    rw [z] at e ⊢
    exact (Int.mul_eq_zero.mp e).resolve_left (gc_ne h)
/-- signs: the order of two fractions by their lowest terms, or by the written ones -/
theorem low_lt {u d u' d' : Int} (h : d ≠ 0) (h' : d' ≠ 0) : (tp u d * bt u' d' < tp u' d' * bt u d) ↔ (u * d' - u' * d) * d * d' < 0 := by
  have b := bt_pos (u := u) h
  have b' := bt_pos (u := u') h'
  have x := u_eq u d
  have y := d_eq u d
  have x' := u_eq u' d'
  have y' := d_eq u' d'
  have c := gc_ne (u := u) h
  have c' := gc_ne (u := u') h'
  generalize gc u d = g at *
  generalize tp u d = t at *
  generalize bt u d = s at *
  generalize gc u' d' = g' at *
  generalize tp u' d' = t' at *
  generalize bt u' d' = s' at *
  subst x y x' y'
  have e : (g * t * (g' * s') - g' * t' * (g * s)) * (g * s) * (g' * s') = (t * s' - t' * s) * (g * g * (g' * g') * (s * s')) := by
    rw [Int.sub_mul, Int.sub_mul, Int.sub_mul]
    congr 1 <;> ac_rfl
  rw [e]
  have pp : ∀ z : Int, z ≠ 0 → 0 < z * z := fun z hz => by
    rcases Int.lt_or_gt_of_ne hz with q | q
    · exact Int.mul_pos_of_neg_of_neg q q
    · exact Int.mul_pos q q
  have pos : 0 < g * g * (g' * g') * (s * s') := Int.mul_pos (Int.mul_pos (pp g c) (pp g' c')) (Int.mul_pos b b')
  constructor
  · intro q
    exact Int.mul_neg_of_neg_of_pos (by omega) pos
  · intro q
    by_cases z : t * s' < t' * s
    · exact z
    · have := Int.mul_nonneg (show 0 ≤ t * s' - t' * s by omega) (Int.le_of_lt pos)
      omega
end RX
set_option maxRecDepth 100000
set_option maxHeartbeats 4000000
set_option exponentiation.threshold 10000
namespace B2
open PySem PySem.Spec PyProof.Rows L2 RX LP
abbrev sDivisor : Stmt := top 15
abbrev sLowest : Stmt := top 16
abbrev sIs : Stmt := top 17
/-! ### the law's own lowest terms -/
def spDivisor : Sp := fun vs H Q _ => ∃ a b : Int, vs = [.int a, .int b] ∧ Q (.int ((Nat.gcd a.natAbs b.natAbs : Nat) : Int)) H
def spLowest : Sp := fun vs H Q _ => ∃ u d : Int, vs = [.int u, .int d] ∧ d ≠ 0 ∧ d.natAbs < 2 ^ 4000 ∧ ∀ p, H p = none → Q (.ref p) (upd H p (.tup [.int (tp u d), .int (bt u d)]))
/-- the names of built-ins -/
structure Bl (mg : Str → Option Value) : Prop where
  abs : mg "abs" = none
  int : mg "int" = none
  isi : mg "isinstance" = none
  bool : mg "bool" = none
  repr : mg "repr" = none
  list : mg "list" = none
  len : mg "len" = none
  range : mg "range" = none
  ve : mg "ValueError" = none
section
variable {P : Program} {w : World} {K : PySem.W.Frag} {mg : Str → Option Value} {base : Heap} {C CI CQ f : Addr} {fd : FuncData}
theorem scDivisor : FnScope ["_law_one", "_law_two", "_law_here", "_law_there"] ["_law_one", "_law_two"] (defScope sDivisor) := ⟨rfl, rfl, rfl, by decide +kernel, rfl, by decide +kernel, by decide +kernel⟩
theorem abs_nat (a : Int) : (if a < 0 then -a else a) = ((a.natAbs : Nat) : Int) := by split <;> omega
theorem ok_divisor (F : Fun K "_law_divisor" "_law_divisor" sDivisor f fd) (B : Bl mg) : FnOk P w K mg base CX0 1 f fd ["_law_one", "_law_two"] spDivisor := by
  refine F.ok scDivisor (fun vs H Q E h => ?_) (fun cdv A outer s H vs Q E hr h => ?_)
  · obtain ⟨a, b, rfl, _⟩ := h
    rfl
  · obtain ⟨a, b, rfl, q⟩ := h
    have nd := scDivisor.nd
    refine ⟨_, pss_cons (ps_par (i := 2) (j := 3) (by rfl) nd rfl rfl (by decide) rfl rfl (pa_cons (pe_callB call_abs (by rfl) B.abs (by decide +kernel) (pa_cons (pv 0) pa_nil)) (pa_cons (pe_callB call_abs (by rfl) B.abs (by decide +kernel) (pa_cons (pv 1) pa_nil)) pa_nil)) (by rfl))
      (pss_cons (ps_while PassesOwn.never (pt_cmpR op_ne (pv 3) pe_int (nomark _))
        (pss_one (ps_par (i := 2) (j := 3) (by rfl) nd rfl rfl (by decide) rfl rfl (pa_cons (pv 3) (pa_cons (pe_op op_modN (pe_callTy call_int1 (by rfl) B.int (by decide +kernel) (pa_cons (pv 2) pa_nil)) (pv 3)) pa_nil)) (by rfl))))
      (pss_one (ps_ret (pv 2)))), ?_⟩
    refine ⟨_, rfl, _, rfl, _, rfl, _, rfl, _, _, rfl, ?_⟩
    rw [abs_nat, abs_nat]
    refine while_by (fun σ H' => ∃ x y : Nat, σ = [some (V.int a), some (V.int b), some (V.int (x : Int)), some (V.int (y : Int))] ∧ H' = H ∧ Nat.gcd x y = Nat.gcd a.natAbs b.natAbs) (fun (σ : L2.St) _ => match σ[3]? with | some (some (V.int y)) => y.toNat | _ => 0) ⟨_, _, rfl, rfl, rfl⟩ ?_ ?_
    · rintro σ H' ⟨x, y, rfl, rfl, e⟩
      by_cases hy : y = 0
      · refine ans_ne (b := false) (val_var rfl) val_c rfl (by rw [hy]; rfl) _ (iteF ?_)
        refine st_ret (val_var rfl) ?_
        rw [hy, Nat.gcd_zero_right] at e
        rw [e]
        exact q
      · refine ans_ne (b := true) (val_var rfl) val_c rfl (by rw [decide_eq_false (fun z => hy (by have := V.int.inj z; omega))]; rfl) _ (iteT ?_)
        refine ⟨_, rfl, _, rfl, .inl ⟨_, rfl, _, rfl, _, _, rfl, rfl, (by omega), _, _, rfl, ?_⟩⟩
        have em : ((x : Int).fmod (y : Int)) = ((x % y : Nat) : Int) := by
          rw [Int.fmod_eq_emod_of_nonneg _ (by omega)]
          rfl
        refine ⟨⟨y, x % y, congrArg (fun z => [some (V.int a), some (V.int b), some (V.int (y : Int)), some (V.int z)]) em, rfl, ?_⟩, ?_⟩
        · rw [← e, Nat.gcd_comm x y, Nat.gcd_rec y x, Nat.gcd_comm]
        · show (((x : Int).fmod (y : Int))).toNat < ((y : Int)).toNat
          rw [em]
          have := Nat.mod_lt x (Nat.pos_of_ne_zero hy)
          omega
    · intro σ H' Q Q' hq h
      obtain ⟨v, e, s, k, ek, r⟩ := h
      exact ⟨v, e, s, k, ek, hq _ _ r⟩
theorem scLowest : FnScope ["_law_up", "_law_down", "_law_common"] ["_law_up", "_law_down"] (defScope sLowest) := ⟨rfl, rfl, rfl, by decide +kernel, rfl, by decide +kernel, by decide +kernel⟩
theorem ok_lowest {fD : Addr} {fdD : FuncData} (F : Fun K "_law_lowest" "_law_lowest" sLowest f fd) (GD : FnOk P w K mg base CX0 1 fD fdD ["_law_one", "_law_two"] spDivisor) (DD : At K mg "_law_divisor" fD fdD ["_law_one", "_law_two"]) :
    FnOk P w K mg base CX0 2 f fd ["_law_up", "_law_down"] spLowest := by
  refine F.ok scLowest (fun vs H Q E h => ?_) (fun cdv A outer s H vs Q E hr h => ?_)
  · obtain ⟨a, b, rfl, _⟩ := h
    rfl
  · obtain ⟨u, d, rfl, d0, bd, q⟩ := h
    have nd := scLowest.nd
    refine ⟨_, pss_cons (ps_set (i := 2) nd rfl (Or.inl rfl) (pe_call GD (hr.mono (by decide)) (by rfl) DD.mg DD.kp DD.b .nil pass0 (pa_cons (pv 0) (pa_cons (pv 1) pa_nil))))
      (C8.pss_cut (ps_if (pt_cmpR op_lt (pv 1) pe_int (nomark _)) (pss_one (ps_set (i := 2) nd rfl (Or.inl rfl) (pe_op op_sub pe_int (pv 2)))) pss_nil)
      (pss_one (ps_ret (pe_tup (pa_cons (pe_op op_fdivX (pv 0) (pv 2)) (pa_cons (pe_op op_fdivX (pv 1) (pv 2)) pa_nil)))))), ?_⟩
    refine ⟨_, rfl, _, rfl, u, d, rfl, ?_⟩
    refine ⟨fun σ H' => σ = [some (V.int u), some (V.int d), some (V.int (gc u d))] ∧ H' = H, ?_, ?_⟩
    · by_cases hd : d < 0
      · refine st_yes (ans_cmp (val_var rfl) val_c fun Q q => ⟨_, _, rfl, rfl, (show Q (.bl (decide (d < 0))) H by rw [decide_eq_true hd]; exact q)⟩) ?_
        refine st_set (val_op val_c (val_var rfl) fun Q q => ⟨_, _, rfl, rfl, q⟩) ⟨?_, rfl⟩
        unfold gc
        rw [if_pos hd, ← Int.zero_sub]
        rfl
      · refine st_no (ans_cmp (val_var rfl) val_c fun Q q => ⟨_, _, rfl, rfl, (show Q (.bl (decide (d < 0))) H by rw [decide_eq_false hd]; exact q)⟩) ⟨?_, rfl⟩
        unfold gc
        rw [if_neg hd]
        rfl
    · rintro σ H' ⟨rfl, rfl⟩
      have cd : CDivX u (gc u d) := div_x (gc_ne d0) (gc_le d0 bd) (by decide) (by decide)
      refine ⟨_, rfl, _, rfl, _, _, rfl, rfl, cd, _, rfl, _, rfl, _, _, rfl, rfl, (show CDivX d (gc u d) from cd), (by show 2 ≤ sizeLine; decide), fun p hp => q p hp⟩
end
end B2
set_option maxRecDepth 100000
set_option maxHeartbeats 4000000
set_option exponentiation.threshold 10000
namespace B2
open PySem PySem.Spec PyProof.Rows L2 RX LP XO
/-- what repr asks of data -/
structure Sh (d : PyData) : Prop where
  s : d.showable = true
  h : d.depth ≤ 64
  l : d.shown.length ≤ sizeLine
theorem log_of {i : Int} (h : i.natAbs < 2 ^ 1900) : i.natAbs.log2 < 1920 := Nat.lt_trans (PySem.Flt.log2_lt_of (by decide) h) (by decide)
theorem sh_tup {i j : Int} (hi : i.natAbs < 2 ^ 1900) (hj : j.natAbs < 2 ^ 1900) : Sh (.tuple [.int i, .int j]) := by
  have l1 := log_of hi
  have l2 := log_of hj
  have n1 := int_text_len_1921 l1
  have n2 := int_text_len_1921 l2
  refine ⟨?_, (by show (max 0 (max 0 0)) + 1 ≤ 64; decide), ?_⟩
  · show (decide (i.natAbs.log2 < 1920) && (decide (j.natAbs.log2 < 1920) && true)) = true
    rw [decide_eq_true l1, decide_eq_true l2]
    rfl
  · show (tupleText [PySem.Str.ofString (toString i), PySem.Str.ofString (toString j)]).length ≤ sizeLine
    generalize PySem.Str.ofString (toString i) = x at *
    generalize PySem.Str.ofString (toString j) = y at *
    have z : (tupleText [x, y]).length = 1 + (x.length + 2 + y.length) + 1 := by
      show ((PySem.Str.ofString "(") ++ (x ++ (PySem.Str.ofString ", ") ++ y) ++ (PySem.Str.ofString ")")).length = _
      rw [strLen_append, strLen_append, strLen_append, strLen_append]
      rfl
    rw [z]
    have : 5000 ≤ sizeLine := by decide
    omega
def spIs (C : Addr) : Sp := fun vs H Q _ => ∃ v u d, vs = [v, .int u, .int d] ∧ RatP C (tp u d) (bt u d) v H ∧ d ≠ 0 ∧ u.natAbs < 2 ^ 1900 ∧ d.natAbs < 2 ^ 1900 ∧ ∀ H', Grow H H' → Q (.bl true) H'
section
variable {P : Program} {w : World} {K : PySem.W.Frag} {mg : Str → Option Value} {base : Heap} {C CI CQ f : Addr} {fd : FuncData}
theorem scIsL : FnScope ["_law_found", "_law_up", "_law_down"] ["_law_found", "_law_up", "_law_down"] (defScope sIs) := ⟨rfl, rfl, rfl, by decide +kernel, rfl, by decide +kernel, by decide +kernel⟩
theorem ok_is {fL : Addr} {fdL : FuncData} (F : Fun K "_law_is" "_law_is" sIs f fd) (T : RTx K mg C CI CQ) (B : Bl mg) (GL : FnOk P w K mg base CX0 2 fL fdL ["_law_up", "_law_down"] spLowest) (DL : At K mg "_law_lowest" fL fdL ["_law_up", "_law_down"]) :
    FnG P w K mg base 3 f fd ["_law_found", "_law_up", "_law_down"] (spIs C) := by
  refine fnG_of F scIsL (fun vs H Q E h => ?_) (fun cdv A outer s H vs Q E hr hg h => ?_)
  · obtain ⟨v, u, d, rfl, _⟩ := h
    rfl
  · obtain ⟨v, u, d, rfl, ⟨a, dx, rfl, ea⟩, d0, bu, bd, q⟩ := h
    have hu : (A.deeper (envOfC (PySem.Str.ofString "_law_is") (defScope sIs) s.heap.objs.size f cdv)).units + 65 < cLine := by
      have := hr.un
      omega
    refine ⟨_, pss_cons (ps_if (PW.pt (pw_or (pt_not (pt_val (pe_callB call_isi (by rfl) T.isi (by decide +kernel) (pa_cons (pv 0) (pa_cons (pe_glob (v := .ref C) (by rfl) T.gR rfl) pa_nil)))))
        (pw_or (pt_val (pe_callB call_isi (by rfl) T.isi (by decide +kernel) (pa_cons (pe_fld (pv 0) rfl) (pa_cons (pe_bltn (v := .ty "bool") (by rfl) T.bool (by decide +kernel) rfl) pa_nil))))
          (pw_or1 (pt_val (pe_callB call_isi (by rfl) T.isi (by decide +kernel) (pa_cons (pe_fld (pv 0) rfl) (pa_cons (pe_bltn (v := .ty "bool") (by rfl) T.bool (by decide +kernel) rfl) pa_nil))))))))
        (pss_one (ps_ret pe_bl)) pss_nil)
      (pss_one (ps_ret (pe_cmpR op_eq (pe_callB (call_repr hg hu) (by rfl) B.repr (by decide +kernel) (pa_cons (pe_tup (pa_cons (pe_fld (pv 0) rfl) (pa_cons (pe_fld (pv 0) rfl) pa_nil))) pa_nil))
        (pe_callB (call_repr hg hu) (by rfl) B.repr (by decide +kernel) (pa_cons (pe_call GL (hr.mono (by decide)) (by rfl) DL.mg DL.kp DL.b .nil pass0 (pa_cons (pv 1) (pa_cons (pv 2) pa_nil))) pa_nil)) (nomark _)))), ?_⟩
    show tSeq _ _ _ [some (V.ref a), some (V.int u), some (V.int d)] H
    obtain ⟨t, ty, kr⟩ := T.kr ea
    have top := v_top (σ := [some (V.ref a), some (V.int u), some (V.int d)]) (i := 0) T rfl ea
    have bot := v_bot (σ := [some (V.ref a), some (V.int u), some (V.int d)]) (i := 0) T rfl ea
    refine sA_no (ans_or (ans_not (ans_val (val_isi (val_var rfl) ty kr (.own C)))) (ans_or (ans_val (val_isi top (.base (.int _)) (kit_ty (b := "bool") (r := false) (by decide +kernel)) (.ty _))) (ans_val (val_isi bot (.base (.int _)) (kit_ty (b := "bool") (r := false) (by decide +kernel)) (.ty _))))) ?_
    have st : (tp u d).natAbs < 2 ^ 1900 := Nat.lt_of_le_of_lt (tp_le u d) bu
    have sb : (bt u d).natAbs < 2 ^ 1900 := Nat.lt_of_le_of_lt (bt_le u d) bd
    have sh := sh_tup st sb
    refine ⟨_, rfl, a, C, dx, _, _, rfl, ea, T.cl, T.nT, flds_top, _, rfl, a, C, dx, _, _, rfl, ea, T.cl, T.nB, flds_bot, (by show 2 ≤ sizeLine; decide), fun p hp => ?_⟩
    refine ⟨_, .tuple [.int (tp u d), .int (bt u d)], rfl, .tup upd_same (.cons (.int _) (.cons (.int _) .nil)), sh.s, sh.h, sh.l, ?_⟩
    refine ⟨_, rfl, _, rfl, u, d, rfl, d0, lt_grow bd (by decide), fun p2 hp2 => ?_⟩
    refine ⟨_, .tuple [.int (tp u d), .int (bt u d)], rfl, .tup upd_same (.cons (.int _) (.cons (.int _) .nil)), sh.s, sh.h, sh.l, rfl, ?_⟩
    rw [decide_eq_true (rfl : V.str _ = V.str _)]
    exact q _ ((grow_new hp).tr (grow_new hp2))
end
end B2
set_option maxRecDepth 100000
set_option maxHeartbeats 4000000
namespace B2
open PySem PySem.Spec PyProof.Rows L2
abbrev sPen : Stmt := top 11
abbrev sDraw : Stmt := top 12
/-- what stands may change at p alone -/
def But (p : Addr) (H H' : Hp) : Prop := ∀ a o, a ≠ p → H a = some o → H' a = some o
theorem But.refl {p : Addr} {H : Hp} : But p H H := fun _ _ _ h => h
theorem But.trans {p : Addr} {H H1 H2 : Hp} (x : But p H H1) (y : But p H1 H2) : But p H H2 := fun a o n h => y a o n (x a o n h)
theorem But.new {p q : Addr} {H : Hp} {o : HO} (h : H q = none) : But p H (upd H q o) := fun a u _ e => by
  rw [upd_ne (ne_of_none e h)]
  exact e
theorem But.put {p : Addr} {H : Hp} {o : HO} : But p H (upd H p o) := fun a u n e => by
  rw [upd_ne n]
  exact e
/-- the pen at p: the script's numbers, at l; how many were read; what is left of a large one -/
structure PenAt (H : Hp) (p l : Addr) (ns : List Int) (k r : Int) : Prop where
  pen : H p = some (.lst [.ref l, .int k, .int r])
  lst : H l = some (.lst (ns.map V.int))
  ne : l ≠ p
  len : ns.length ≤ 63
  k0 : 0 ≤ k
theorem PenAt.but {H H' : Hp} {p l : Addr} {ns : List Int} {k r k' r' : Int} (P : PenAt H p l ns k r) (b : But p H H') (h : H' p = some (.lst [.ref l, .int k', .int r'])) (h0 : 0 ≤ k') : PenAt H' p l ns k' r' := ⟨h, b l _ P.ne P.lst, P.ne, P.len, h0⟩
def spPen (K : PySem.W.Frag) : Sp := fun vs H Q _ => ∃ (a : Addr) (ns : List Int), vs = [.ref a] ∧ SqL K H a (ns.map V.int) ∧ ns.length ≤ 63 ∧
  ∀ (p l : Addr) (H' : Hp), H p = none → (∀ b o, H b = some o → H' b = some o) → PenAt H' p l ns 0 0 → Q (.ref p) H'
def spDraw : Sp := fun vs H Q _ => ∃ (p l : Addr) (ns : List Int) (k r many : Int), vs = [.ref p, .int many] ∧ PenAt H p l ns k r ∧ k ≤ 10000 ∧ 0 < many ∧ many < 2 ^ 200 ∧
  ∀ (d k' r' : Int) (H' : Hp), 0 ≤ d → d < many → k' ≤ k + 1 → But p H H' → PenAt H' p l ns k' r' → Q (.int d) H'
theorem cut63 {ns : List Int} (h : ns.length ≤ 63) : cutV (ns.map V.int) none (some 63) = ns.map V.int := by
  unfold cutV
  rw [HT.sIx_none, show (some (63 : Int)) = some ((63 : Nat) : Int) from rfl, HT.sIx_nat, List.drop_zero, List.length_map]
  exact List.take_of_length_le (by rw [List.length_map]; omega)
theorem dpInts {K : PySem.W.Frag} {H : Hp} : ∀ ns : List Int, DpAll K H (ns.map V.int) (ns.map PyData.int)
  | [] => .nil
  | n :: r => .cons (.int n) (dpInts r)
theorem canInts : ∀ ns : List Int, PyData.canLayAll0 (ns.map PyData.int) = true
  | [] => rfl
  | n :: r => by
    show (PyData.canLay0 (PyData.int n) && PyData.canLayAll0 (r.map PyData.int)) = true
    rw [canInts r]
    rfl
theorem depInts : ∀ ns : List Int, PyData.depthAll (ns.map PyData.int) = 0
  | [] => rfl
  | n :: r => by
    show max (PyData.depth (PyData.int n)) (PyData.depthAll (r.map PyData.int)) = 0
    rw [depInts r]
    rfl
theorem shInts {ns : List Int} : SeqAt.shaped (PyData.list (ns.map PyData.int)) = true := by
  unfold SeqAt.shaped
  rw [show PyData.canLay0 (PyData.list (ns.map PyData.int)) = true from canInts ns]
  refine decide_eq_true ?_
  show PyData.depthAll (ns.map PyData.int) + 1 ≤ 64
  rw [depInts ns]
  decide
theorem fm0 {i j : Int} (h : 0 < j) : 0 ≤ i.fmod j := by
  rw [Int.fmod_eq_emod_of_nonneg _ (Int.le_of_lt h)]
  exact Int.emod_nonneg _ (Int.ne_of_gt h)
theorem fm1 {i j : Int} (h : 0 < j) : i.fmod j < j := by
  rw [Int.fmod_eq_emod_of_nonneg _ (Int.le_of_lt h)]
  exact Int.emod_lt_of_pos _ h
section
variable {P : Program} {w : World} {K : PySem.W.Frag} {mg : Str → Option Value} {base : Heap}
theorem scPen : FnScope ["_law_script"] ["_law_script"] (defScope sPen) := ⟨rfl, rfl, rfl, by decide +kernel, rfl, by decide +kernel, by decide +kernel⟩
theorem ok_pen {f : Addr} {fd : FuncData} (F : Fun K "_law_pen" "_law_pen" sPen f fd) (T : Bl mg) : FnOk P w K mg base CX0 1 f fd ["_law_script"] (spPen K) := by
  refine F.ok scPen (fun vs H Q E h => ?_) (fun cdv A outer s H vs Q E hr h => ?_)
  · obtain ⟨a, ns, rfl, _⟩ := h
    rfl
  · obtain ⟨a, ns, rfl, hS, hl, k⟩ := h
    refine ⟨_, pss_one (ps_ret (pe_lst (pa_cons (pe_callTy call_list_of (by rfl) T.list (by decide +kernel) (pa_cons (pe_slice sl_list (pv 0) po_none (po_some pe_int)) pa_nil)) (pa_cons pe_int (pa_cons pe_int pa_nil))))), ?_⟩
    refine ⟨_, rfl, _, rfl, a, _, rfl, hS, fun c hc => ?_⟩
    refine ⟨c, _, rfl, .inl (SqL.of upd_same), fun l hl' => ?_⟩
    refine ⟨(by show 3 ≤ sizeLine; decide), fun p hp => ?_⟩
    rw [cut63 hl] at hl' hp ⊢
    have nlc : l ≠ c := fun e => by
      rw [e, upd_same] at hl'
      cases hl'
    have npl : p ≠ l := fun e => by
      rw [e, upd_same] at hp
      cases hp
    have npc : p ≠ c := fun e => by
      rw [upd_ne npl, e, upd_same] at hp
      cases hp
    rw [upd_ne nlc] at hl'
    rw [upd_ne npl, upd_ne npc] at hp
    refine k p l _ hp (fun b o e => ?_) ⟨upd_same, by rw [upd_ne npl.symm, upd_same], npl.symm, hl, by decide⟩
    rw [upd_ne (ne_of_none e hp), upd_ne (ne_of_none e hl'), upd_ne (ne_of_none e hc)]
    exact e
theorem scDraw : FnScope ["_law_pen_here", "_law_many", "_law_digit", "_law_at", "_law_cell", "_law_large", "_law_mixed"] ["_law_pen_here", "_law_many"] (defScope sDraw) := ⟨rfl, rfl, rfl, by decide +kernel, rfl, by decide +kernel, by decide +kernel⟩
theorem ok_draw {f : Addr} {fd : FuncData} (F : Fun K "_law_draw" "_law_draw" sDraw f fd) (T : Bl mg) : FnOk P w K mg base CX0 1 f fd ["_law_pen_here", "_law_many"] spDraw := by
  refine F.ok scDraw (fun vs H Q E h => ?_) (fun cdv A outer s H vs Q E hr h => ?_)
  · obtain ⟨p, l, ns, k, r, many, rfl, _⟩ := h
    rfl
  · obtain ⟨p, l, ns, k, r, many, rfl, hP, hk, hm0, hm1, q⟩ := h
    have nd := scDraw.nd
    refine ⟨_, (pss_cons
        (ps_if (pt_cmpR op_gt (pe_ix ix_list (pv 0) pe_int (fun _ _ => rfl)) pe_int (nomark _))
          (pss_cons
            (ps_set (i := 2) nd rfl (Or.inl rfl) (pe_op op_modN (pe_callTy call_int1 (by rfl) T.int (by decide +kernel) (pa_cons (pe_ix ix_list (pv 0) pe_int (fun _ _ => rfl)) pa_nil)) (pv 1)))
          (pss_cons
            (ps_asg (pe_op op_fdivW (pe_callTy call_int1 (by rfl) T.int (by decide +kernel) (pa_cons (pe_ix ix_list (pv 0) pe_int (fun _ _ => rfl)) pa_nil)) (pv 1)) (pg_sub (pv 0) pe_int set_list))
          (pss_one
            (ps_ret (pv 2)))))
          pss_nil)
      (pss_cons
        (ps_set (i := 3) nd rfl (Or.inl rfl) (pe_ix ix_list (pv 0) pe_int (fun _ _ => rfl)))
      (pss_cons
        (ps_asg (pe_op op_add (pv 3) pe_int) (pg_sub (pv 0) pe_int set_list))
      (pss_cons
        (ps_set (i := 4) nd rfl (Or.inl rfl) (pe_op op_add (pe_op op_mul pe_int (pv 3)) pe_int))
      (C8.pss_cut
        (ps_if (pt_cmpR (op_neD hr.units) (pe_ix ix_list (pv 0) pe_int (fun _ _ => rfl)) (pe_lst pa_nil) (nomark _))
          (pss_one
            (ps_set (i := 4) nd rfl (Or.inl rfl) (pe_ix ix_list (pe_ix ix_list (pv 0) pe_int (fun _ _ => rfl)) (pe_op op_modN (pe_callTy call_int1 (by rfl) T.int (by decide +kernel) (pa_cons (pv 3) pa_nil)) (pe_callB call_len_seq (by rfl) T.len PySem.boot_len (pa_cons (pe_ix ix_list (pv 0) pe_int (fun _ _ => rfl)) pa_nil))) (fun _ _ => rfl))))
          pss_nil)
      (pss_cons
        (ps_if (PW.pt (pw_and (pt_cmpR op_lt (pv 3) (pe_callB call_len_seq (by rfl) T.len PySem.boot_len (pa_cons (pe_ix ix_list (pv 0) pe_int (fun _ _ => rfl)) pa_nil)) (nomark _)) (pw_and1 (pt_cmpR op_ge (pe_callB call_abs (by rfl) T.abs (by decide +kernel) (pa_cons (pv 4) pa_nil)) (pe_op op_pow pe_int pe_int) (nomark _)))))
          (pss_cons
            (ps_set (i := 5) nd rfl (Or.inl rfl) (pe_op op_add (pe_op op_mul pe_int (pe_callB call_abs (by rfl) T.abs (by decide +kernel) (pa_cons (pv 4) pa_nil))) (pe_callTy call_int1 (by rfl) T.int (by decide +kernel) (pa_cons (pe_cmpR op_lt (pv 4) pe_int (nomark _)) pa_nil))))
          (pss_cons
            (ps_asg (pe_op op_fdivW (pv 5) (pv 1)) (pg_sub (pv 0) pe_int set_list))
          (pss_one
            (ps_ret (pe_op op_modN (pe_callTy call_int1 (by rfl) T.int (by decide +kernel) (pa_cons (pv 5) pa_nil)) (pv 1))))))
          pss_nil)
      (pss_cons
        (ps_set (i := 6) nd rfl (Or.inl rfl) (pe_op op_modN (pe_callTy call_int1 (by rfl) T.int (by decide +kernel) (pa_cons (pe_op op_pow (pe_op op_add (pe_op op_add (pe_op op_modN (pe_callTy call_int1 (by rfl) T.int (by decide +kernel) (pa_cons (pv 4) pa_nil)) pe_int) (pe_op op_mul pe_int (pv 3))) pe_int) pe_int) pa_nil)) pe_int))
      (pss_cons
        (ps_set (i := 6) nd rfl (Or.inl rfl) (pe_op op_modN (pe_callTy call_int1 (by rfl) T.int (by decide +kernel) (pa_cons (pe_op op_pow (pe_op op_add (pe_op op_add (pe_op op_mul (pv 6) (pe_op op_add (pe_op op_mul pe_int (pv 3)) pe_int)) (pe_op op_mul (pe_op op_mul pe_int (pv 3)) (pv 3))) pe_int) pe_int) pa_nil)) pe_int))
      (pss_one
        (ps_ret (pe_op op_modN (pe_callTy call_int1 (by rfl) T.int (by decide +kernel) (pa_cons (pe_op op_fdiv (pv 6) pe_int) pa_nil)) (pv 1)))))))))))), ?_⟩
    have ix : ∀ {σ : L2.St} {H : Hp} {k r : Int} {i : Int} {v : V}, H p = some (.lst [.ref l, .int k, .int r]) → σ[0]? = some (some (.ref p)) → atI [V.ref l, .int k, .int r] i = some v → Val (tOp (rIxL K) (tVar 0) (tC (.int i))) σ H v :=
      fun h0 h h1 => val_op (val_var h) val_c fun Q q => ⟨p, _, _, _, rfl, rfl, SqL.of h0, h1, q⟩
    have int1 : ∀ {te : TE} {σ : L2.St} {H : Hp} {i : Int}, Val te σ H (.int i) → Val (tCB (fun xs H Q => (∃ i, xs = [.int i] ∧ Q (.int i) H) ∨ ∃ k, xs = [.bl k] ∧ Q (.int (if k then 1 else 0)) H) (tCons te tNil)) σ H (.int i) :=
      fun h Q q => h _ (.inl ⟨_, rfl, q⟩)
    show tSeq _ _ _ [some (V.ref p), some (V.int many), none, none, none, none, none] H
    refine st_seq ?_
    by_cases c1 : 0 < r
    · refine st_yes (ans_gt (ix hP.pen rfl rfl) (decide_eq_true c1)) ?_
      refine st_seq (st_set (val_op (int1 (ix hP.pen rfl rfl)) (val_var rfl) fun Q q => ⟨_, _, rfl, rfl, by omega, q⟩) ?_)
      refine st_seq ?_
      refine val_op (int1 (ix hP.pen rfl rfl)) (val_var rfl) (fun Q q => ⟨_, _, rfl, rfl, wide_div hm0 (b := 200) (by omega) (by decide) (by decide), q⟩) _ ?_
      refine ⟨_, rfl, _, _, _, _, rfl, rfl, hP.pen, rfl, ?_⟩
      refine st_ret (val_var rfl) ?_
      exact q _ _ _ _ (by rw [Int.fmod_eq_emod_of_nonneg _ (by omega)]; exact Int.emod_nonneg _ (by omega)) (by rw [Int.fmod_eq_emod_of_nonneg _ (by omega)]; exact Int.emod_lt_of_pos _ hm0) (by omega) But.put (hP.but But.put upd_same hP.k0)
    refine st_no (ans_gt (ix hP.pen rfl rfl) (decide_eq_false c1)) ?_
    refine st_seq (st_set (ix hP.pen rfl rfl) ?_)
    refine st_seq ?_
    refine val_op (val_var rfl) val_c (fun Q q => ⟨_, _, rfl, rfl, q⟩) _ ?_
    refine ⟨_, rfl, _, _, _, _, rfl, rfl, hP.pen, rfl, ?_⟩
    have hP1 : PenAt (upd H p (.lst [.ref l, .int (k + 1), .int r])) p l ns (k + 1) r := hP.but But.put upd_same (by have := hP.k0; omega)
    have b1 : But p H (upd H p (.lst [.ref l, .int (k + 1), .int r])) := But.put
    show tSeq _ _ _ _ (upd H p (.lst [.ref l, .int (k + 1), .int r]))
    generalize upd H p (.lst [.ref l, .int (k + 1), .int r]) = H1 at hP1 b1 ⊢
    refine st_seq (st_set (val_op (val_op val_c (val_var rfl) fun Q q => ⟨_, _, rfl, rfl, .inl (by decide), q⟩) val_c fun Q q => ⟨_, _, rfl, rfl, q⟩) ?_)
    refine ⟨fun σ H' => ∃ c : Int, σ = [some (V.ref p), some (V.int many), none, some (V.int k), some (V.int c), none, none] ∧ But p H H' ∧ PenAt H' p l ns (k + 1) r, ?_, ?_⟩
    · refine ix hP1.pen rfl rfl _ ?_
      refine ⟨(by show 0 ≤ sizeLine; decide), fun z hz => ?_⟩
      have b2 : But p H (upd H1 z (.lst [])) := b1.trans (But.new hz)
      have nzp : p ≠ z := ne_of_none hP1.pen hz
      have hP2 : PenAt (upd H1 z (.lst [])) p l ns (k + 1) r := hP1.but (But.new hz) (by rw [upd_ne nzp]; exact hP1.pen) hP1.k0
      refine ⟨_, _, .lst (SqL.of hP2.lst) (dpInts ns), .lst (SqL.of upd_same) .nil, shInts, by decide, _, rfl, ?_⟩
      cases ns with
      | nil =>
        refine iteF ?_
        exact ⟨_, rfl, b2, hP2⟩
      | cons n0 nr =>
        refine iteT ?_
        have hpos : (0 : Int) < (((n0 :: nr).map V.int).length : Int) := by rw [List.length_map, List.length_cons]; omega
        obtain ⟨j, hj, e⟩ : ∃ j : Nat, j < (n0 :: nr).length ∧ k.fmod (((n0 :: nr).map V.int).length : Int) = (j : Int) := by
          refine ⟨(k.fmod (((n0 :: nr).map V.int).length : Int)).toNat, ?_, ?_⟩
          · rw [Int.fmod_eq_emod_of_nonneg _ (Int.le_of_lt hpos)]
            have h1 := Int.emod_lt_of_pos k hpos
            have h2 := Int.emod_nonneg k (Int.ne_of_gt hpos)
            rw [List.length_map] at h1 h2 ⊢
            omega
          · rw [Int.fmod_eq_emod_of_nonneg _ (Int.le_of_lt hpos)]
            have h2 := Int.emod_nonneg k (Int.ne_of_gt hpos)
            omega
        refine st_set (val_op (ix hP2.pen rfl rfl) (val_op (int1 (val_var rfl)) (fun Q q => ix hP2.pen rfl rfl _ ⟨l, _, rfl, .inl (SqL.of hP2.lst), q⟩) fun Q q => ⟨_, _, rfl, rfl, Int.ne_of_gt hpos, q⟩) fun Q q => ⟨l, _, _, _, rfl, rfl, SqL.of hP2.lst, by rw [e]; exact atI_nat (by rw [List.getElem?_map, List.getElem?_eq_getElem hj]; rfl), q⟩) ?_
        exact ⟨_, rfl, b2, hP2⟩
    · rintro σ H' ⟨c, rfl, b2, hP2⟩
      have hk0 := hP.k0
      have hA : Ans (tTest (tOp (rI0 fun i j => V.bl (decide (i < j))) (tVar 3) (tCB (fun xs H Q => ∃ p ys, xs = [V.ref p] ∧ (SqL K H p ys ∨ SqT K H p ys) ∧ Q (V.int ↑ys.length) H) (tCons (tOp (rIxL K) (tVar 0) (tC (.int 0))) tNil))))
          [some (V.ref p), some (V.int many), none, some (V.int k), some (V.int c), none, none] H' (decide (k < ((ns.map V.int).length : Int))) :=
        ans_cmp (val_var rfl) (fun Q q => ix hP2.pen rfl rfl _ ⟨l, _, rfl, .inl (SqL.of hP2.lst), q⟩) fun Q q => ⟨_, _, rfl, rfl, q⟩
      have hB : Ans (tTest (tOp (rI0 fun i j => V.bl (decide (j ≤ i))) (tCB (fun xs H Q => ∃ i, xs = [V.int i] ∧ Q (V.int (if i < 0 then -i else i)) H) (tCons (tVar 4) tNil)) (tOp (rI CPow fun i j => V.int (i ^ j.toNat)) (tC (V.int 10)) (tC (V.int 18)))))
          [some (V.ref p), some (V.int many), none, some (V.int k), some (V.int c), none, none] H' (decide ((10 : Int) ^ (18 : Int).toNat ≤ if c < 0 then -c else c)) :=
        ans_cmp (fun Q q => val_var rfl _ ⟨c, rfl, q⟩) (val_op val_c val_c fun Q q => ⟨_, _, rfl, rfl, ⟨by decide, by decide, by decide⟩, q⟩) fun Q q => ⟨_, _, rfl, rfl, q⟩
      refine st_seq ?_
      cases e : (decide (k < ((ns.map V.int).length : Int)) && decide ((10 : Int) ^ (18 : Int).toNat ≤ if c < 0 then -c else c)) with
      | true =>
        refine st_yes ((ans_and2 hA hB).to e) ?_
        refine st_seq (st_set (val_op (val_op val_c (fun Q q => val_var rfl _ ⟨c, rfl, q⟩) fun Q q => ⟨_, _, rfl, rfl, .inl (by decide), q⟩) (fun Q q => val_op (val_var rfl) val_c (fun Q q => ⟨_, _, rfl, rfl, q⟩) _ (.inr ⟨_, rfl, q⟩)) fun Q q => ⟨_, _, rfl, rfl, q⟩) ?_)
        refine st_seq ?_
        refine val_op (val_var rfl) (val_var rfl) (fun Q q => ⟨_, _, rfl, rfl, wide_div hm0 (b := 200) (by omega) (by decide) (by decide), q⟩) _ ?_
        refine ⟨_, rfl, _, _, _, _, rfl, rfl, hP2.pen, rfl, ?_⟩
        refine st_ret (val_op (int1 (val_var rfl)) (val_var rfl) fun Q q => ⟨_, _, rfl, rfl, by omega, q⟩) ?_
        exact q _ _ _ _ (fm0 hm0) (fm1 hm0) (Int.le_refl _) (b2.trans But.put) (hP2.but But.put upd_same hP2.k0)
      | false =>
        refine st_no ((ans_and2 hA hB).to e) ?_
        have f0 := fm0 (i := c) (j := 2147483549) (by decide)
        have f1 := fm1 (i := c) (j := 2147483549) (by decide)
        refine st_seq (st_set (val_op (int1 (val_op (val_op (val_op (val_op (int1 (val_var rfl)) val_c fun Q q => ⟨_, _, rfl, rfl, by show (2147483549 : Int) ≠ 0; decide, q⟩) (val_op val_c (val_var rfl) fun Q q => ⟨_, _, rfl, rfl, .inl (by decide), q⟩) fun Q q => ⟨_, _, rfl, rfl, q⟩) val_c fun Q q => ⟨_, _, rfl, rfl, q⟩) val_c
          fun Q q => ⟨_, _, rfl, rfl, ⟨by decide, by decide, by omega⟩, q⟩)) val_c fun Q q => ⟨_, _, rfl, rfl, by show (2147483629 : Int) ≠ 0; decide, q⟩) ?_)
        have g0 := fm0 (i := (c.fmod 2147483549 + 40031 * k + 37) ^ (5 : Int).toNat) (j := 2147483629) (by decide)
        have g1 := fm1 (i := (c.fmod 2147483549 + 40031 * k + 37) ^ (5 : Int).toNat) (j := 2147483629) (by decide)
        show tSeq _ _ _ [some (V.ref p), some (V.int many), none, some (V.int k), some (V.int c), none, some (V.int (((c.fmod 2147483549 + 40031 * k + 37) ^ (5 : Int).toNat).fmod 2147483629))] H'
        generalize ((c.fmod 2147483549 + 40031 * k + 37) ^ (5 : Int).toNat).fmod 2147483629 = m at g0 g1 ⊢
        have p0 : 0 ≤ m * (2 * k + 19) := Int.mul_nonneg g0 (by omega)
        have p1 : m * (2 * k + 19) ≤ 2147483629 * 20019 := Int.mul_le_mul (by omega) (by omega) (by omega) (by decide)
        have p2 : 0 ≤ 50033 * k * k := Int.mul_nonneg (by omega) hk0
        have p3 : 50033 * k * k ≤ 50033 * 10000 * 10000 := Int.mul_le_mul (by omega) hk hk0 (by decide)
        refine st_seq (st_set (val_op (int1 (val_op (val_op (val_op (val_op (val_var rfl) (val_op (val_op val_c (val_var rfl) fun Q q => ⟨_, _, rfl, rfl, .inl (by decide), q⟩) val_c fun Q q => ⟨_, _, rfl, rfl, q⟩) fun Q q => ⟨_, _, rfl, rfl, .inl (by omega), q⟩)
          (val_op (val_op val_c (val_var rfl) fun Q q => ⟨_, _, rfl, rfl, .inl (by decide), q⟩) (val_var rfl) fun Q q => ⟨_, _, rfl, rfl, .inl (by omega), q⟩) fun Q q => ⟨_, _, rfl, rfl, q⟩) val_c fun Q q => ⟨_, _, rfl, rfl, q⟩) val_c
          fun Q q => ⟨_, _, rfl, rfl, ⟨by decide, by decide, by omega⟩, q⟩)) val_c fun Q q => ⟨_, _, rfl, rfl, by show (2147483587 : Int) ≠ 0; decide, q⟩) ?_)
        refine st_ret (val_op (int1 (val_op (val_var rfl) val_c fun Q q => ⟨_, _, rfl, rfl, ⟨by decide, by decide⟩, q⟩)) (val_var rfl) fun Q q => ⟨_, _, rfl, rfl, by omega, q⟩) ?_
        exact q _ _ _ _ (fm0 hm0) (fm1 hm0) (Int.le_refl _) b2 hP2
end
end B2
set_option maxRecDepth 100000
set_option maxHeartbeats 4000000
set_option exponentiation.threshold 10000
namespace B2
open PySem PySem.Spec PyProof.Rows L2 RX LP
abbrev sNumber : Stmt := top 13
abbrev sFar : Stmt := top 14
abbrev sPair : Stmt := top 18
theorem PenAt.new {H : Hp} {p l z : Addr} {ns : List Int} {k r : Int} {o : HO} (P : PenAt H p l ns k r) (hz : H z = none) : PenAt (upd H z o) p l ns k r := P.but (But.new hz) (by rw [upd_ne (ne_of_none P.pen hz)]; exact P.pen) P.k0
theorem But.grow {p : Addr} {H H' : Hp} (g : Grow H H') : But p H H' := fun b o _ e => g b o e
theorem PenAt.grow {H H' : Hp} {p l : Addr} {ns : List Int} {k r : Int} (P : PenAt H p l ns k r) (g : Grow H H') : PenAt H' p l ns k r := ⟨g _ _ P.pen, g _ _ P.lst, P.ne, P.len, P.k0⟩
/-- what a def that draws hands back -/
def Drawn (p l : Addr) (ns : List Int) (k : Int) (n : Int) (H : Hp) (R : V → Hp → Prop) (Q : VK) : Prop := ∀ v k' r' H', k' ≤ k + n → But p H H' → PenAt H' p l ns k' r' → R v H' → Q v H'
def spNumber : Sp := fun vs H Q _ => ∃ p l ns k r, vs = [.ref p] ∧ PenAt H p l ns k r ∧ k ≤ 9500 ∧ Drawn p l ns k 4 H (fun v _ => ∃ n : Int, v = .int n ∧ n.natAbs ≤ 1000000) Q
def spFar : Sp := fun vs H Q _ => ∃ p l ns k r, vs = [.ref p] ∧ PenAt H p l ns k r ∧ k ≤ 9000 ∧ Drawn p l ns k 3 H (fun v _ => ∃ n : Int, v = .int n ∧ n ≠ 0 ∧ n.natAbs < 2 ^ 220) Q
def spPair : Sp := fun vs H Q _ => ∃ p l ns k r, vs = [.ref p] ∧ PenAt H p l ns k r ∧ k ≤ 9000 ∧ Drawn p l ns k 9 H (fun v H' => ∃ t u d, v = .ref t ∧ H' t = some (.tup [.int u, .int d]) ∧ d ≠ 0 ∧ u.natAbs ≤ 1000000 ∧ d.natAbs ≤ 1000) Q
section
variable {P : Program} {w : World} {K : PySem.W.Frag} {mg : Str → Option Value} {base : Heap} {f fD : Addr} {fd fdD : FuncData}
abbrev psD : List Str := ["_law_pen_here", "_law_many"]
theorem scNumber : FnScope ["_law_pen_here", "_law_some"] ["_law_pen_here"] (defScope sNumber) := ⟨rfl, rfl, rfl, by decide +kernel, rfl, by decide +kernel, by decide +kernel⟩
theorem scFar : FnScope ["_law_pen_here"] ["_law_pen_here"] (defScope sFar) := ⟨rfl, rfl, rfl, by decide +kernel, rfl, by decide +kernel, by decide +kernel⟩
theorem scPair : FnScope ["_law_pen_here", "_law_some"] ["_law_pen_here"] (defScope sPair) := ⟨rfl, rfl, rfl, by decide +kernel, rfl, by decide +kernel, by decide +kernel⟩
theorem cases3 {d : Int} (h0 : 0 ≤ d) (h3 : d < 3) : d = 0 ∨ d = 1 ∨ d = 2 := by omega
theorem ok_number (F : Fun K "_law_number" "_law_number" sNumber f fd) (GD : FnOk P w K mg base CX0 1 fD fdD psD spDraw) (DD : At K mg "_law_draw" fD fdD psD) : FnOk P w K mg base CX0 2 f fd ["_law_pen_here"] spNumber := by
  refine F.ok scNumber (fun vs H Q E h => ?_) (fun cdv A outer s H vs Q E hr h => ?_)
  · obtain ⟨p, l, ns, k, r, rfl, _⟩ := h
    rfl
  · obtain ⟨p, l, ns, k, r, rfl, hP, hk, q⟩ := h
    have nd := scNumber.nd
    refine ⟨_, pss_cons (ps_set (i := 1) nd rfl (Or.inl rfl) (pe_lst (pa_cons (pe_op op_sub (pe_call GD (hr.mono (by decide)) (by rfl) DD.mg DD.kp DD.b .nil pass0 (pa_cons (pv 0) (pa_cons pe_int pa_nil))) pe_int)
        (pa_cons (pe_op op_mul (pe_op op_sub (pe_call GD (hr.mono (by decide)) (by rfl) DD.mg DD.kp DD.b .nil pass0 (pa_cons (pv 0) (pa_cons pe_int pa_nil))) pe_int) pe_int)
        (pa_cons (pe_op op_sub (pe_call GD (hr.mono (by decide)) (by rfl) DD.mg DD.kp DD.b .nil pass0 (pa_cons (pv 0) (pa_cons pe_int pa_nil))) pe_int) pa_nil)))))
      (pss_one (ps_ret (pe_ix (r := rIxL K) ix_list (pv 1) (pe_call GD (hr.mono (by decide)) (by rfl) DD.mg DD.kp DD.b .nil pass0 (pa_cons (pv 0) (pa_cons pe_int pa_nil))) (fun _ _ => rfl)))), ?_⟩
    refine ⟨_, rfl, p, l, ns, k, r, 9, rfl, hP, by omega, by decide, by decide, fun d1 k1 r1 H1 a0 a1 ak B1 P1 => ?_⟩
    refine ⟨_, _, rfl, rfl, ?_⟩
    refine ⟨_, rfl, p, l, ns, k1, r1, 7, rfl, P1, by omega, by decide, by decide, fun d2 k2 r2 H2 b0 b1 bk B2 P2 => ?_⟩
    refine ⟨_, _, rfl, rfl, ?_⟩
    refine ⟨_, _, rfl, rfl, .inl ⟨by omega, by omega⟩, ?_⟩
    refine ⟨_, rfl, p, l, ns, k2, r2, 1999999, rfl, P2, by omega, by decide, by decide, fun d3 k3 r3 H3 c0 c1 ck B3 P3 => ?_⟩
    refine ⟨_, _, rfl, rfl, ?_⟩
    refine ⟨(by show 3 ≤ sizeLine; decide), fun z hz => ?_⟩
    refine ⟨_, rfl, _, rfl, p, l, ns, k3, r3, 3, rfl, P3.new hz, by omega, by decide, by decide, fun d4 k4 r4 H4 e0 e1 ek B4 P4 => ?_⟩
    have nz : z ≠ p := (ne_of_none P3.pen hz).symm
    have fin : But p H H4 := ((B1.trans B2).trans B3).trans ((But.new hz).trans B4)
    rcases cases3 e0 e1 with rfl | rfl | rfl
    · exact ⟨z, _, 0, _, rfl, rfl, SqL.of (B4 z _ nz upd_same), rfl, q _ _ _ _ (by omega) fin P4 ⟨_, rfl, by omega⟩⟩
    · exact ⟨z, _, 1, _, rfl, rfl, SqL.of (B4 z _ nz upd_same), rfl, q _ _ _ _ (by omega) fin P4 ⟨_, rfl, by omega⟩⟩
    · exact ⟨z, _, 2, _, rfl, rfl, SqL.of (B4 z _ nz upd_same), rfl, q _ _ _ _ (by omega) fin P4 ⟨_, rfl, by omega⟩⟩
theorem ok_far (F : Fun K "_law_far" "_law_far" sFar f fd) (GD : FnOk P w K mg base CX0 1 fD fdD psD spDraw) (DD : At K mg "_law_draw" fD fdD psD) : FnOk P w K mg base CX0 2 f fd ["_law_pen_here"] spFar := by
  refine F.ok scFar (fun vs H Q E h => ?_) (fun cdv A outer s H vs Q E hr h => ?_)
  · obtain ⟨p, l, ns, k, r, rfl, _⟩ := h
    rfl
  · obtain ⟨p, l, ns, k, r, rfl, hP, hk, q⟩ := h
    refine ⟨_, pss_one (ps_ret (pe_op op_mulW (pe_op op_add (pe_op op_add (pe_op op_mulW (pe_call GD (hr.mono (by decide)) (by rfl) DD.mg DD.kp DD.b .nil pass0 (pa_cons (pv 0) (pa_cons (pe_op op_pow pe_int pe_int) pa_nil))) (pe_op op_pow pe_int pe_int))
        (pe_call GD (hr.mono (by decide)) (by rfl) DD.mg DD.kp DD.b .nil pass0 (pa_cons (pv 0) (pa_cons (pe_op op_pow pe_int pe_int) pa_nil)))) pe_int)
      (pe_ix (r := rIxL K) ix_list (pe_lst (pa_cons pe_int (pa_cons (pe_un un_neg pe_int) pa_nil))) (pe_call GD (hr.mono (by decide)) (by rfl) DD.mg DD.kp DD.b .nil pass0 (pa_cons (pv 0) (pa_cons pe_int pa_nil))) (fun _ _ => rfl)))), ?_⟩
    refine ⟨_, rfl, _, _, rfl, rfl, ⟨by decide, by decide, by decide⟩, p, l, ns, k, r, 1000000000, rfl, hP, by omega, by decide, by decide, fun d1 k1 r1 H1 a0 a1 ak B1 P1 => ?_⟩
    refine ⟨_, _, rfl, rfl, ⟨by decide, by decide, by decide⟩, ?_⟩
    have w1 : d1.natAbs < 2 ^ 30 := by omega
    have w2 : ((10 : Int) ^ (51 : Int).toNat).natAbs < 2 ^ 170 := by decide
    refine ⟨_, _, rfl, rfl, wide_mul w1 w2 (by decide) (by decide) (by decide), ?_⟩
    refine ⟨_, rfl, _, _, rfl, rfl, ⟨by decide, by decide, by decide⟩, p, l, ns, k1, r1, 1000000000, rfl, P1, by omega, by decide, by decide, fun d2 k2 r2 H2 b0 b1 bk B2 P2 => ?_⟩
    refine ⟨_, _, rfl, rfl, ?_⟩
    refine ⟨_, _, rfl, rfl, ?_⟩
    refine ⟨_, rfl, ?_⟩
    refine ⟨(by show 2 ≤ sizeLine; decide), fun z hz => ?_⟩
    refine ⟨_, rfl, p, l, ns, k2, r2, 2, rfl, P2.new hz, by omega, by decide, by decide, fun d3 k3 r3 H3 e0 e1 ek B3 P3 => ?_⟩
    have nz : z ≠ p := (ne_of_none P2.pen hz).symm
    have fin : But p H H3 := (B1.trans B2).trans ((But.new hz).trans B3)
    have wN : (d1 * (10 : Int) ^ (51 : Int).toNat).natAbs < 2 ^ 200 := wide_lt w1 w2
    have pos : 0 ≤ d1 * (10 : Int) ^ (51 : Int).toNat := Int.mul_nonneg a0 (by decide)
    generalize d1 * (10 : Int) ^ (51 : Int).toNat = m at *
    have wS : (m + d2 + 1).natAbs < 2 ^ 210 := by
      have : (2 : Nat) ^ 200 + 2 ^ 40 < 2 ^ 210 := by decide
      have : (1000000001 : Nat) < 2 ^ 40 := by decide
      omega
    rcases (show d3 = 0 ∨ d3 = 1 by omega) with rfl | rfl
    · refine ⟨z, _, 0, _, rfl, rfl, SqL.of (B3 z _ nz upd_same), rfl, ?_⟩
      refine ⟨_, _, rfl, rfl, wide_mul (b := 10) wS (by decide) (by decide) (by decide) (by decide), ?_⟩
      refine q _ _ _ _ (by omega) fin P3 ⟨_, rfl, by omega, ?_⟩
      rw [Int.mul_one]
      exact lt_grow wS (by decide)
    · refine ⟨z, _, 1, _, rfl, rfl, SqL.of (B3 z _ nz upd_same), rfl, ?_⟩
      refine ⟨_, _, rfl, rfl, wide_mul (b := 10) wS (by decide) (by decide) (by decide) (by decide), ?_⟩
      refine q _ _ _ _ (by omega) fin P3 ⟨_, rfl, by omega, ?_⟩
      rw [Int.natAbs_mul]
      exact lt_grow (show (m + d2 + 1).natAbs * 1 < 2 ^ 210 by rw [Nat.mul_one]; exact wS) (by decide)
theorem ok_pair {fN : Addr} {fdN : FuncData} (F : Fun K "_law_pair" "_law_pair" sPair f fd) (GD : FnOk P w K mg base CX0 1 fD fdD psD spDraw) (DD : At K mg "_law_draw" fD fdD psD)
    (GN : FnOk P w K mg base CX0 2 fN fdN ["_law_pen_here"] spNumber) (DN : At K mg "_law_number" fN fdN ["_law_pen_here"]) : FnOk P w K mg base CX0 3 f fd ["_law_pen_here"] spPair := by
  refine F.ok scPair (fun vs H Q E h => ?_) (fun cdv A outer s H vs Q E hr h => ?_)
  · obtain ⟨p, l, ns, k, r, rfl, _⟩ := h
    rfl
  · obtain ⟨p, l, ns, k, r, rfl, hP, hk, q⟩ := h
    have nd := scPair.nd
    refine ⟨_, pss_cons (ps_set (i := 1) nd rfl (Or.inl rfl) (pe_lst (pa_cons (pe_op op_add pe_int (pe_call GD (hr.mono (by decide)) (by rfl) DD.mg DD.kp DD.b .nil pass0 (pa_cons (pv 0) (pa_cons pe_int pa_nil))))
        (pa_cons (pe_op op_mul pe_int (pe_op op_add pe_int (pe_call GD (hr.mono (by decide)) (by rfl) DD.mg DD.kp DD.b .nil pass0 (pa_cons (pv 0) (pa_cons pe_int pa_nil)))))
        (pa_cons (pe_op op_add pe_int (pe_call GD (hr.mono (by decide)) (by rfl) DD.mg DD.kp DD.b .nil pass0 (pa_cons (pv 0) (pa_cons pe_int pa_nil)))) pa_nil)))))
      (pss_one (ps_ret (pe_tup (pa_cons (pe_call GN (hr.mono (by decide)) (by rfl) DN.mg DN.kp DN.b .nil pass0 (pa_cons (pv 0) pa_nil))
        (pa_cons (pe_op op_mul (pe_ix (r := rIxL K) ix_list (pv 1) (pe_call GD (hr.mono (by decide)) (by rfl) DD.mg DD.kp DD.b .nil pass0 (pa_cons (pv 0) (pa_cons pe_int pa_nil))) (fun _ _ => rfl))
          (pe_ix (r := rIxL K) ix_list (pe_lst (pa_cons pe_int (pa_cons pe_int (pa_cons (pe_un un_neg pe_int) pa_nil)))) (pe_call GD (hr.mono (by decide)) (by rfl) DD.mg DD.kp DD.b .nil pass0 (pa_cons (pv 0) (pa_cons pe_int pa_nil))) (fun _ _ => rfl))) pa_nil))))), ?_⟩
    refine ⟨_, rfl, p, l, ns, k, r, 12, rfl, hP, by omega, by decide, by decide, fun d1 k1 r1 H1 a0 a1 ak B1 P1 => ?_⟩
    refine ⟨_, _, rfl, rfl, ?_⟩
    refine ⟨_, rfl, p, l, ns, k1, r1, 80, rfl, P1, by omega, by decide, by decide, fun d2 k2 r2 H2 b0 b1 bk B2 P2 => ?_⟩
    refine ⟨_, _, rfl, rfl, ?_⟩
    refine ⟨_, _, rfl, rfl, .inl ⟨by decide, by decide⟩, ?_⟩
    refine ⟨_, rfl, p, l, ns, k2, r2, 1000, rfl, P2, by omega, by decide, by decide, fun d3 k3 r3 H3 c0 c1 ck B3 P3 => ?_⟩
    refine ⟨_, _, rfl, rfl, ?_⟩
    refine ⟨(by show 3 ≤ sizeLine; decide), fun z hz => ?_⟩
    have nz : z ≠ p := (ne_of_none P3.pen hz).symm
    refine ⟨_, rfl, p, l, ns, k3, r3, rfl, P3.new hz, by omega, fun v k4 r4 H4 ek B4 P4 ⟨u, ev, bu⟩ => ?_⟩
    subst ev
    have hz4 := B4 z _ nz upd_same
    refine ⟨_, rfl, _, rfl, p, l, ns, k4, r4, 3, rfl, P4, by omega, by decide, by decide, fun d5 k5 r5 H5 f0 f1 fk B5 P5 => ?_⟩
    have hz5 := B5 z _ nz hz4
    have main : ∀ y : Int, atI [V.int (1 + d1), V.int (12 * (1 + d2)), V.int (1 + d3)] d5 = some (V.int y) → 1 ≤ y ∧ y ≤ 1000 →
        (rIxL K) (V.ref z) (V.int d5) H5 (fun x H6 => (tOp (rIxL K) (tLst (tCons (tC (.int 1)) (tCons (tC (.int 1)) (tCons (tUn (rU fun i => V.int (-i)) (tC (.int 1))) tNil)))) (tCall spDraw [] E0 (tCons (tVar 0) (tCons (tC (.int 3)) tNil)))) [some (V.ref p), some (V.ref z)] H6
          fun y H7 => (rI (fun i j => (-(2 ^ 64) < i ∧ i < 2 ^ 64) ∨ (-(2 ^ 64) < j ∧ j < 2 ^ 64)) fun i j => V.int (i * j)) x y H7 fun x2 H8 => [V.int u, x2].length ≤ sizeLine ∧ ∀ p', H8 p' = none → Q (.ref p') (upd H8 p' (.tup [V.int u, x2]))) := by
      intro y hy by_
      refine ⟨z, _, d5, _, rfl, rfl, SqL.of hz5, hy, ?_⟩
      refine ⟨_, rfl, ?_⟩
      refine ⟨(by show 3 ≤ sizeLine; decide), fun z2 hz2 => ?_⟩
      have nz2 : z2 ≠ p := (ne_of_none P5.pen hz2).symm
      refine ⟨_, rfl, p, l, ns, k5, r5, 3, rfl, P5.new hz2, by omega, by decide, by decide, fun d6 k6 r6 H6 g0 g1 gk B6 P6 => ?_⟩
      have fin : But p H H6 := ((B1.trans B2).trans B3).trans ((But.new hz).trans (B4.trans (B5.trans ((But.new hz2).trans B6))))
      have l6 := B6 z2 _ nz2 upd_same
      rcases cases3 g0 g1 with rfl | rfl | rfl
      · exact ⟨z2, _, 0, _, rfl, rfl, SqL.of l6, rfl, _, _, rfl, rfl, .inl ⟨by omega, by omega⟩, (by show 2 ≤ sizeLine; decide), fun t ht => q _ _ _ _ (by omega) (fin.trans (But.new ht)) (P6.new ht) ⟨t, u, y * 1, rfl, upd_same, by omega, bu, by omega⟩⟩
      · exact ⟨z2, _, 1, _, rfl, rfl, SqL.of l6, rfl, _, _, rfl, rfl, .inl ⟨by omega, by omega⟩, (by show 2 ≤ sizeLine; decide), fun t ht => q _ _ _ _ (by omega) (fin.trans (But.new ht)) (P6.new ht) ⟨t, u, y * 1, rfl, upd_same, by omega, bu, by omega⟩⟩
      · exact ⟨z2, _, 2, _, rfl, rfl, SqL.of l6, rfl, _, _, rfl, rfl, .inl ⟨by omega, by omega⟩, (by show 2 ≤ sizeLine; decide), fun t ht => q _ _ _ _ (by omega) (fin.trans (But.new ht)) (P6.new ht) ⟨t, u, y * -1, rfl, upd_same, by omega, bu, by omega⟩⟩
    rcases cases3 f0 f1 with rfl | rfl | rfl
    · exact main _ rfl (by omega)
    · exact main _ rfl (by omega)
    · exact main _ rfl (by omega)
end
end B2
set_option maxRecDepth 100000
set_option maxHeartbeats 4000000
set_option exponentiation.threshold 10000
namespace B2
open PySem PySem.Spec PyProof.Rows L2 RX LP
abbrev sHeard : Stmt := top 19
/-- what stands of the two errors in the written part -/
structure HTx (K : PySem.W.Frag) (mg : Str → Option Value) (CI CQ CF : Addr) : Prop where
  gI : mg "InvalidRatio" = some (.ref CI)
  gQ : mg "NoQuotient" = some (.ref CQ)
  gF : mg "FaceError" = some (.ref CF)
  eII : PySem.W.exmOne K (.ref CI) (.ref CI) = some true
  eQI : PySem.W.exmOne K (.ref CQ) (.ref CI) = some false
  eQQ : PySem.W.exmOne K (.ref CQ) (.ref CQ) = some true
  xI : ExcC K CI
  xQ : ExcC K CQ
  iF : PySem.W.kitOne K (.ref CI) (.ref CF) = some true
  iV : PySem.W.kitOne K (.ref CI) (.type "ValueError") = some true
  qF : PySem.W.kitOne K (.ref CQ) (.ref CF) = some true
  qI : PySem.W.kitOne K (.ref CQ) (.ref CI) = some false
abbrev nsH : List Str := ["_law_ask", "error"]
theorem scHeard : FnScope nsH ["_law_ask"] (defScope sHeard) := ⟨rfl, rfl, rfl, by decide +kernel, rfl, by decide +kernel, by decide +kernel⟩
/-- what the def makes of the reading of what it calls -/
def TTh (CI CQ : Addr) : (XK → Hp → VK → Prop) → Hp → VK → Prop := fun tl H Q =>
  tl (fun cls d H' => d = none ∧ ((cls = .ref CI ∧ Q (.str "ratio") H') ∨ (cls = .ref CQ ∧ Q (.str "quotient") H'))) H fun _ H' => Q (.str "") H'
section
variable {X : Cx} {CI CQ CF : Addr} {g : Addr} {cdg : Value}
theorem val_isE {K : PySem.W.Frag} {D a : Addr} {σ : L2.St} {H : Hp} {i : Nat} {c : V} {cv : Value} {b : Bool} (h : σ[i]? = some (some (.ref a))) (hc : ClsV c cv) (k : PySem.W.kitOne K (.ref D) cv = some b) : Val (tCB (rIsE K D a) (tCons (tVar i) (tCons (tC c) tNil))) σ H (.bl b) := fun Q q => ⟨_, h, c, cv, b, rfl, fun _ r => hc.eq r, k, q⟩
theorem heard_gives (T : HTx X.K X.mg CI CQ CF) (B : Bl X.mg) (q : Str) : LamX.GivesTo X nsH "_law_heard" (defScope sHeard) g cdg (defBody sHeard) "_law_ask" q (TTh CI CQ) := by
  intro f c' s H Q tl act hc h
  have nd := scHeard.nd
  let X1 : Cx := (cxOf CX0 X.prog X.w X.K X.mg X.base nsH "_law_heard" (defScope sHeard) g cdg X.A X.stack s H E0).nox
  refine ⟨_, pss_cons (ps_try_names (X := X1)
      (tb := fun W D σ H => ∃ Ech : XK, (∀ cls d σ' H', Ech cls d H' → W cls d σ' H') ∧ σ[0]? = some (some (.ref f)) ∧ H c' = some (LamX.CodeO c' q) ∧ tl Ech H fun _ H' => D.nx σ H') rfl rfl nd LamX.takes0
      (fun W pn xe tk _ => ?_)
      (.cons (i := 1) (c := .ref CI) (ts := fun a cls d D σ H => cls = .ref CI ∧ d = none ∧ σ[1]? = some (some (.ref a)) ∧ D.rt (.str "ratio") H) rfl rfl ⟨rfl, by decide, .inl T.gI⟩ (fun a oe cls d pn hz hf => ?_)
        (.cons (i := 1) (c := .ref CQ) (ts := fun a cls d D σ H => cls = .ref CQ ∧ d = none ∧ σ[1]? = some (some (.ref a)) ∧ D.rt (.str "quotient") H) rfl rfl ⟨rfl, by decide, .inl T.gQ⟩ (fun a oe cls d pn hz hf => ?_) .nil)))
    (pss_one (ps_ret pe_str)), ?_⟩
  · refine ⟨fun pins s' σ H' D I h' => ?_⟩
    obtain ⟨Ech, hW, h1, h2, h3⟩ := h'
    exact (pss_one (ps_expr (act W pn xe Ech _ _ tk hW))).run pins s' σ H' D I ⟨h1, h2, h3⟩
  · refine ⟨fun pins s' σ H' D I h' => ?_⟩
    obtain ⟨rfl, rfl, h1, h2⟩ := h'
    refine (pss_one (X := X1.suite a ((a, oe) :: pn)) (ps_ret (pe_ifExp (PW.pt (pw_and (pt_val (pe_callB (call_isE T.xI hz hf) (by rfl) B.isi (by decide +kernel) (pa_cons (pv 1) (pa_cons (pe_glob (v := .ref CF) (by rfl) T.gF rfl) pa_nil))))
      (pw_and1 (pt_val (pe_callB (call_isE T.xI hz hf) (by rfl) B.isi (by decide +kernel) (pa_cons (pv 1) (pa_cons (pe_bltn (v := .ty "ValueError") (by rfl) B.ve (by decide +kernel) rfl) pa_nil))))))) pe_str pe_str))).run pins s' σ H' D I ?_
    exact (ans_and (ans_val (val_isE h1 (.own _) T.iF)) (ans_val (val_isE h1 (.ty _) T.iV)) _ (iteT h2))
  · refine ⟨fun pins s' σ H' D I h' => ?_⟩
    obtain ⟨rfl, rfl, h1, h2⟩ := h'
    refine (pss_one (X := X1.suite a ((a, oe) :: pn)) (ps_ret (pe_ifExp (PW.pt (pw_and (pt_val (pe_callB (call_isE T.xQ hz hf) (by rfl) B.isi (by decide +kernel) (pa_cons (pv 1) (pa_cons (pe_glob (v := .ref CF) (by rfl) T.gF rfl) pa_nil))))
      (pw_and1 (pt_not (pt_val (pe_callB (call_isE T.xQ hz hf) (by rfl) B.isi (by decide +kernel) (pa_cons (pv 1) (pa_cons (pe_glob (v := .ref CI) (by rfl) T.gI rfl) pa_nil)))))))) pe_str pe_str))).run pins s' σ H' D I ?_
    exact (ans_and (ans_val (val_isE h1 (.own _) T.qF)) (ans_not (ans_val (val_isE h1 (.own _) T.qI))) _ (iteT h2))
  · refine ⟨_, ?_, rfl, hc, h⟩
    rintro cls d σ' H' ⟨rfl, z | z⟩
    · obtain ⟨rfl, z⟩ := z
      refine ⟨true, T.eII, fun _ a ha hl => ⟨rfl, rfl, List.getElem?_set_self (by rw [hl]; show 1 < 2; decide), z⟩, fun e => Bool.noConfusion e⟩
    · obtain ⟨rfl, z⟩ := z
      refine ⟨false, T.eQI, fun e => Bool.noConfusion e, fun _ => ⟨true, T.eQQ, fun _ a ha hl => ⟨rfl, rfl, List.getElem?_set_self (by rw [hl]; show 1 < 2; decide), z⟩, fun e => Bool.noConfusion e⟩⟩
end
end B2
set_option maxRecDepth 100000
set_option maxHeartbeats 4000000
namespace LP
open PySem PySem.Spec PyProof.Rows L2
def EvB (c : TT) (σ : L2.St) (H : Hp) (b : Bool) : Prop := ∀ H1, Grow H H1 → ∀ Q : Bool → Hp → Prop, (∀ H2, Grow H1 H2 → Q b H2) → c σ H1 Q
section
variable {K : PySem.W.Frag} {σ : L2.St} {H H' : Hp} {te ta tb : TE} {tl : TA} {P R : PV} {Ps Qs : List PV} {v : V} {i j : Nat} {c c' : TT} {D : Ends} {t1 u : TS}
theorem sq_no (h : EvB c σ H false) (q : ∀ H', Grow H H' → u D σ H') : tSeq (tIfS c t1 tNext) u D σ H := h H grow_rfl _ fun H2 g => iteF (q H2 g)
theorem ls_no (h : EvB c σ H false) (q : ∀ H', Grow H H' → D.nx σ H') : tIfS c t1 tNext D σ H := h H grow_rfl _ fun H2 g => iteF (q H2 g)
theorem evb_or (h : EvB c σ H false) (h' : EvB c' σ H false) : EvB (tOr c c') σ H false := fun H1 g Q q => h H1 g _ fun H2 g2 => iteF (h' H2 (g.tr g2) Q fun H3 g3 => q H3 (g2.tr g3))
theorem sq_par (h : tl σ H fun vs H1 => ∃ x y, vs = [x, y] ∧ u D ((σ.set i (some x)).set j (some y)) H1) : tSeq (tPar i j tl) u D σ H := h
theorem sq_asg {g : TG} (h : te σ H fun x H1 => g x σ H1 fun σ' H' => u D σ' H') : tSeq (tAsg te g) u D σ H := h
theorem EvP.impG (m : ∀ v H', Grow H H' → P v H' → R v H') (h : EvP te σ H P) : EvP te σ H R := fun H1 g Q q => h H1 g Q fun v H2 g2 p => q v H2 g2 (m v H2 (g.tr g2) p)
/-- for x in range(n), n told by the arguments; the body is read for any next turn -/
theorem sq_for {n : Nat} (Pv : Nat → L2.St → Hp → Prop) (ha : EvPs tl σ H [IsP (.int (n : Int))]) (big : n ≤ 1000000) (h0 : ∀ H', Grow H H' → Pv 0 σ H')
    (hs : ∀ k σ' H', k < n → Pv k σ' H' → ∀ D' : Ends, (∀ σ2 H2, Pv (k + 1) σ2 H2 → D'.nx σ2 H2) → t1 D' (σ'.set i (some (.int (k : Int)))) H') (hd : ∀ σ' H', Pv n σ' H' → u D σ' H') :
    tSeq (tFor (iRng1 tl) (gName i) t1) u D σ H := ha H grow_rfl _ fun vs H1 g p => by
  match vs, p with
  | [x], ⟨e, _⟩ =>
    cases (show x = .int (n : Int) from e)
    refine ⟨(n : Int), rfl, by omega, by omega, ?_⟩
    rw [Int.toNat_natCast]
    refine for_range (lo := 0) (n := n) Pv (h0 H1 g) (fun k σ' H' hk pv => ?_) hd
    have z := hs k σ' H' hk pv { nx := Pv (k + 1), ct := Pv (k + 1), bk := u D, rt := D.rt } (fun _ _ x => x)
    rw [show (0 : Int) + (k : Int) = (k : Int) by omega]
    exact z
theorem AllP.rep {xs : List V} (h : AllP Ps xs H) : ∀ n : Nat, AllP (List.replicate n Ps).flatten (List.replicate n xs).flatten H
  | 0 => trivial
  | n + 1 => by
    show AllP (Ps ++ (List.replicate n Ps).flatten) (xs ++ (List.replicate n xs).flatten) H
    exact h.app (AllP.rep h n)
theorem StbA.rep (s : StbA Ps) : ∀ n : Nat, StbA (List.replicate n Ps).flatten
  | 0 => trivial
  | n + 1 => by
    show StbA (Ps ++ (List.replicate n Ps).flatten)
    exact s.app (StbA.rep s n)
theorem evp_rep {k : Int} (k0 : 0 ≤ k) (k1 : k ≤ 1000) (n : Ps.length ≤ 1000) (h : EvP ta σ H (LstP Ps)) (s : StbA Ps) : EvP (tOp rRep ta (tC (.int k))) σ H (LstP (List.replicate k.toNat Ps).flatten) := fun H1 g Q q =>
  h H1 g _ fun x H2 g2 ⟨p, xs, ex, hp, ap⟩ => by
    subst ex
    refine ⟨p, k, xs, rfl, rfl, hp, by omega, by omega, ?_, fun z hz => q _ _ (g2.tr (grow_new hz)) ⟨z, _, rfl, upd_same, (ap.rep _).grow (s.rep _) (grow_new hz)⟩⟩
    rw [ap.len]
    exact Nat.le_trans (Nat.mul_le_mul n (show k.toNat ≤ 1000 by omega)) (by decide)
theorem evp_repN {k : Int} (k0 : 0 ≤ k) (k1 : k < 1000) (n : Ps.length ≤ 1000) (h : EvP ta σ H (LstP Ps)) (s : StbA Ps) : EvP (tOp XO.rRepN ta (tC (.int k))) σ H (LstN (List.replicate k.toNat Ps).flatten) := fun H1 g Q q =>
  h H1 g _ fun x H2 g2 ⟨p, xs, ex, hp, ap⟩ => by
    subst ex
    refine ⟨p, xs, k, rfl, rfl, hp, k0, k1, ?_, fun z hz nz => q _ _ (g2.tr (grow_new hz)) ⟨z, _, rfl, nz, upd_same, (ap.rep _).grow (s.rep _) (grow_new hz)⟩⟩
    rw [ap.len]
    exact n
/-! ### what repr shows -/
def ShP (d : PyData) : PV := fun v H => XO.RD H v d
def RelA (H : Hp) : List PV → List PyData → Prop
  | [], [] => True
  | P :: Ps, d :: ds => (∀ v, P v H → XO.RD H v d) ∧ RelA H Ps ds
  | _, _ => False
theorem rds_of {H : Hp} : ∀ {Ps : List PV} {ds : List PyData} {xs : List V}, RelA H Ps ds → AllP Ps xs H → XO.RDs H xs ds
  | [], [], [], _, _ => .nil
  | _ :: _, _ :: _, _ :: _, ⟨r, rs⟩, ⟨a, as⟩ => .cons (r _ a) (rds_of rs as)
theorem sh_lst {Ps : List PV} {ds : List PyData} {v : V} (r : RelA H Ps ds) (h : LstN Ps v H) : ShP (.list ds) v H := by
  obtain ⟨p, xs, rfl, n, e, a⟩ := h
  exact .lst e n (rds_of r a)
theorem ne_repr {d : PyData} (s : B2.Sh d) (ha : EvP ta σ H (ShP d)) (hb : EvP tb σ H (ShP d)) : EvB (tTest (tOp rNe (tCB XO.rRepr (tCons ta tNil)) (tCB XO.rRepr (tCons tb tNil)))) σ H false := fun H1 g Q q =>
  ha H1 g _ fun x H2 g2 rx => ⟨x, d, rfl, rx, s.s, s.h, s.l, hb H2 (g.tr g2) _ fun y H3 g3 ry => ⟨y, d, rfl, ry, s.s, s.h, s.l, rfl, false, by rw [decide_eq_true (rfl : V.str d.shown = V.str d.shown)]; rfl, q H3 (g2.tr g3)⟩⟩
end
end LP
set_option maxRecDepth 100000
set_option maxHeartbeats 4000000
set_option exponentiation.threshold 10000
/-! What expressions over fractions give. -/
namespace B2
open PySem PySem.Spec PyProof.Rows L2 RX LP XO
section
variable {K : PySem.W.Frag} {mg : Str → Option Value} {C CI CQ : Addr} {σ : L2.St} {H : Hp} {te t1e t2e tu td : TE} {t1 b1 t2 b2 : Int} {v : V} {E : XK}
theorem evp_val (h : ∀ H', Val te σ H' v) : EvP te σ H (IsP v) := fun H1 _ Q q => h H1 _ (q v H1 grow_rfl rfl)
theorem evp_bin {g : Int → Int → Int → Int → Int × Int} (h1 : EvP t1e σ H (RatP C t1 b1)) (h2 : EvP t2e σ H (RatP C t2 b2)) (n1 : b1 ≠ 0) (n2 : b2 ≠ 0) (s1 : Sz t1) (s2 : Sz b1) (s3 : Sz t2) (s4 : Sz b2) :
    EvP (tOp (rOwn C (spBin C g) E) t1e t2e) σ H (RatP C (tp (g t1 b1 t2 b2).1 (g t1 b1 t2 b2).2) (bt (g t1 b1 t2 b2).1 (g t1 b1 t2 b2).2)) := fun H1 g0 Q q => h1 H1 g0 _ fun x H2 g2 p1 => h2 H2 (g0.tr g2) _ fun y H3 g3 p2 => by
  obtain ⟨a, dx, rfl, ea⟩ := p1
  obtain ⟨b, dy, rfl, eb⟩ := p2
  exact ⟨a, dx, _, b, dy, _, rfl, rfl, g3 _ _ ea, eb, a, dx, b, dy, _, _, _, _, rfl, g3 _ _ ea, eb, n1, n2, s1, s2, s3, s4, fun v H4 g4 pv => q v H4 ((g2.tr g3).tr g4) pv⟩
theorem evp_neg (h1 : EvP t1e σ H (RatP C t1 b1)) (n1 : b1 ≠ 0) (s1 : Sz t1) (s2 : Sz b1) : EvP (tUn (rNegO C (spNeg C) E) t1e) σ H (RatP C (tp (-t1) b1) (bt (-t1) b1)) := fun H1 g0 Q q => h1 H1 g0 _ fun x H2 g2 p1 => by
  obtain ⟨a, dx, rfl, ea⟩ := p1
  exact ⟨a, dx, _, rfl, ea, a, dx, _, _, rfl, ea, n1, s1, s2, fun v H4 g4 pv => q v H4 (g2.tr g4) pv⟩
theorem evp_is {u d : Int} (h : EvP te σ H (RatP C t1 b1)) (hu : EvP tu σ H (IsP (.int u))) (hd : EvP td σ H (IsP (.int d))) (e : t1 = tp u d ∧ b1 = bt u d) (d0 : d ≠ 0) (bu : u.natAbs < 2 ^ 1900) (bd : d.natAbs < 2 ^ 1900) :
    EvP (tCall (spIs C) [] E (tCons te (tCons tu (tCons td tNil)))) σ H (IsP (.bl true)) := fun H1 g0 Q q => h H1 g0 _ fun x H2 g2 px => hu H2 (g0.tr g2) _ fun y H3 g3 py => hd H3 ((g0.tr g2).tr g3) _ fun z H4 g4 pz => by
  cases (show y = .int u from py)
  cases (show z = .int d from pz)
  rw [e.1, e.2] at px
  exact ⟨x, u, d, rfl, stb_rat _ _ _ (g3.tr g4) px, d0, bu, bd, fun H5 g5 => q _ _ (((g2.tr g3).tr g4).tr g5) rfl⟩
theorem evb_no (h : EvP te σ H (IsP (.bl true))) : EvB (tNot (tB te)) σ H false := fun H1 g Q q => h H1 g _ fun v H2 g2 e => ⟨true, e, q H2 g2⟩
theorem evb_of {b : Bool} (h : EvP te σ H (IsP (.bl b))) : EvB (tB te) σ H b := fun H1 g Q q => h H1 g _ fun v H2 g2 e => ⟨b, e, q H2 g2⟩
theorem evp_under (nm : (flds t1 b1).lookup ("under" : Str) = none) (h1 : EvP t1e σ H (RatP C t1 b1)) (h2 : EvP t2e σ H (RatP C t2 b2)) (s1 : Sz t1) (s2 : Sz b1) (s3 : Sz t2) (s4 : Sz b2) :
    EvP (tMeth C "under" (spUnder C) [] E t1e (tCons t2e tNil)) σ H (IsP (.bl (decide (t1 * b2 < t2 * b1)))) := fun H1 g0 Q q => h1 H1 g0 _ fun x H2 g2 p1 => by
  obtain ⟨a, dx, rfl, ea⟩ := p1
  exact ⟨a, dx, _, rfl, ea, nm, h2 H2 (g0.tr g2) _ fun y H3 g3 ⟨b, dy, ey, eb⟩ => ⟨a, dx, b, dy, _, _, _, _, by rw [ey]; rfl, g3 _ _ ea, eb, s1, s2, s3, s4, q _ _ (g2.tr g3) rfl⟩⟩
/-- one positional value and one by its name -/
def g11 {α : Type} : List α → List α → List α
  | [a], [b] => [a, b]
  | _, _ => []
theorem evp_underK (nm : (flds t1 b1).lookup ("under" : Str) = none) (h1 : EvP t1e σ H (RatP C t1 b1)) (h2 : EvP t2e σ H (RatP C t2 b2)) (s1 : Sz t1) (s2 : Sz b1) (s3 : Sz t2) (s4 : Sz b2) :
    EvP (tMethK C "under" (spUnder C) g11 E t1e (tCons t2e tNil)) σ H (IsP (.bl (decide (t1 * b2 < t2 * b1)))) := fun H1 g0 Q q => h1 H1 g0 _ fun x H2 g2 p1 => by
  obtain ⟨a, dx, rfl, ea⟩ := p1
  exact ⟨a, dx, _, rfl, ea, nm, h2 H2 (g0.tr g2) _ fun y H3 g3 ⟨b, dy, ey, eb⟩ => ⟨a, dx, b, dy, _, _, _, _, by rw [ey]; rfl, g3 _ _ ea, eb, s1, s2, s3, s4, q _ _ (g2.tr g3) rfl⟩⟩
theorem evp_over (nm : (flds t1 b1).lookup ("over" : Str) = none) (h1 : EvP t1e σ H (RatP C t1 b1)) (h2 : EvP t2e σ H (RatP C t2 b2)) (n1 : b1 ≠ 0) (n2 : t2 ≠ 0) (s1 : Sz t1) (s2 : Sz b1) (s3 : Sz t2) (s4 : Sz b2) :
    EvP (tMeth C "over" (spOver C CQ) [] E t1e (tCons t2e tNil)) σ H (RatP C (tp (t1 * b2) (b1 * t2)) (bt (t1 * b2) (b1 * t2))) := fun H1 g0 Q q => h1 H1 g0 _ fun x H2 g2 p1 => by
  obtain ⟨a, dx, rfl, ea⟩ := p1
  exact ⟨a, dx, _, rfl, ea, nm, h2 H2 (g0.tr g2) _ fun y H3 g3 ⟨b, dy, ey, eb⟩ => ⟨a, dx, b, dy, _, _, _, _, by rw [ey]; rfl, g3 _ _ ea, eb, n1, s1, s2, s3, s4, fun z => absurd z n2, fun _ v H4 g4 pv => q _ _ ((g2.tr g3).tr g4) pv⟩⟩
theorem evp_overK (nm : (flds t1 b1).lookup ("over" : Str) = none) (h1 : EvP t1e σ H (RatP C t1 b1)) (h2 : EvP t2e σ H (RatP C t2 b2)) (n1 : b1 ≠ 0) (n2 : t2 ≠ 0) (s1 : Sz t1) (s2 : Sz b1) (s3 : Sz t2) (s4 : Sz b2) :
    EvP (tMethK C "over" (spOver C CQ) g11 E t1e (tCons t2e tNil)) σ H (RatP C (tp (t1 * b2) (b1 * t2)) (bt (t1 * b2) (b1 * t2))) := fun H1 g0 Q q => h1 H1 g0 _ fun x H2 g2 p1 => by
  obtain ⟨a, dx, rfl, ea⟩ := p1
  exact ⟨a, dx, _, rfl, ea, nm, h2 H2 (g0.tr g2) _ fun y H3 g3 ⟨b, dy, ey, eb⟩ => ⟨a, dx, b, dy, _, _, _, _, by rw [ey]; rfl, g3 _ _ ea, eb, n1, s1, s2, s3, s4, fun z => absurd z n2, fun _ v H4 g4 pv => q _ _ ((g2.tr g3).tr g4) pv⟩⟩
theorem evp_eq (T : RTx K mg C CI CQ) (nf : PySem.W.notFirst K C (.ref C) = true) (h1 : EvP t1e σ H (RatP C t1 b1)) (h2 : EvP t2e σ H (RatP C t2 b2)) :
    EvP (tOp (rEqO K C (spEq K C) E) t1e t2e) σ H (IsP (.bl (decide (t1 = t2) && decide (b1 = b2)))) := fun H1 g0 Q q => h1 H1 g0 _ fun x H2 g2 p1 => h2 H2 (g0.tr g2) _ fun y H3 g3 p2 => by
  obtain ⟨a, dx, rfl, ea⟩ := p1
  obtain ⟨b, dy, rfl, eb⟩ := p2
  exact ⟨a, dx, _, .ref C, rfl, g3 _ _ ea, T.ty eb, nf, a, dx, _, _, .ref b, true, rfl, g3 _ _ ea, T.kr eb, fun z => Bool.noConfusion z, fun _ => ⟨b, dy, _, _, rfl, eb, q _ _ (g2.tr g3) rfl⟩⟩
theorem evp_ne (T : RTx K mg C CI CQ) (nf : PySem.W.notFirst K C (.ref C) = true) (h1 : EvP t1e σ H (RatP C t1 b1)) (h2 : EvP t2e σ H (RatP C t2 b2)) :
    EvP (tOp (rNeO K C (spEq K C) E) t1e t2e) σ H (IsP (.bl (!(decide (t1 = t2) && decide (b1 = b2))))) := fun H1 g0 Q q => h1 H1 g0 _ fun x H2 g2 p1 => h2 H2 (g0.tr g2) _ fun y H3 g3 p2 => by
  obtain ⟨a, dx, rfl, ea⟩ := p1
  obtain ⟨b, dy, rfl, eb⟩ := p2
  exact ⟨a, dx, _, .ref C, rfl, g3 _ _ ea, T.ty eb, nf, a, dx, _, _, .ref b, true, rfl, g3 _ _ ea, T.kr eb, fun z => Bool.noConfusion z, fun _ => ⟨b, dy, _, _, rfl, eb, _, rfl, q _ _ (g2.tr g3) rfl⟩⟩
end
/-! ### the arithmetic of the law -/
section
variable {u1 d1 u2 d2 : Int} (h1 : d1 ≠ 0) (h2 : d2 ≠ 0)
include h1 h2
theorem bne1 : bt u1 d1 ≠ 0 := Int.ne_of_gt (bt_pos h1)
theorem low_add : tp (gAdd (tp u1 d1) (bt u1 d1) (tp u2 d2) (bt u2 d2)).1 (gAdd (tp u1 d1) (bt u1 d1) (tp u2 d2) (bt u2 d2)).2 = tp (u1 * d2 + u2 * d1) (d1 * d2) ∧ bt (gAdd (tp u1 d1) (bt u1 d1) (tp u2 d2) (bt u2 d2)).1 (gAdd (tp u1 d1) (bt u1 d1) (tp u2 d2) (bt u2 d2)).2 = bt (u1 * d2 + u2 * d1) (d1 * d2) := by
  refine low_eq (Int.mul_ne_zero (Int.ne_of_gt (bt_pos h1)) (Int.ne_of_gt (bt_pos h2))) (Int.mul_ne_zero h1 h2) ?_
  have x := low_cross u1 d1
  have y := low_cross u2 d2
  show (tp u1 d1 * bt u2 d2 + tp u2 d2 * bt u1 d1) * (d1 * d2) = (u1 * d2 + u2 * d1) * (bt u1 d1 * bt u2 d2)
  rw [Int.add_mul, Int.add_mul]
  have e1 : tp u1 d1 * bt u2 d2 * (d1 * d2) = u1 * d2 * (bt u1 d1 * bt u2 d2) := by
    calc tp u1 d1 * bt u2 d2 * (d1 * d2) = (tp u1 d1 * d1) * (bt u2 d2 * d2) := by ac_rfl
      _ = (u1 * bt u1 d1) * (bt u2 d2 * d2) := by rw [x]
      _ = u1 * d2 * (bt u1 d1 * bt u2 d2) := by ac_rfl
  have e2 : tp u2 d2 * bt u1 d1 * (d1 * d2) = u2 * d1 * (bt u1 d1 * bt u2 d2) := by
    calc tp u2 d2 * bt u1 d1 * (d1 * d2) = (tp u2 d2 * d2) * (bt u1 d1 * d1) := by ac_rfl
      _ = (u2 * bt u2 d2) * (bt u1 d1 * d1) := by rw [y]
      _ = u2 * d1 * (bt u1 d1 * bt u2 d2) := by ac_rfl
  rw [e1, e2]
theorem low_sub : tp (gSub (tp u1 d1) (bt u1 d1) (tp u2 d2) (bt u2 d2)).1 (gSub (tp u1 d1) (bt u1 d1) (tp u2 d2) (bt u2 d2)).2 = tp (u1 * d2 - u2 * d1) (d1 * d2) ∧ bt (gSub (tp u1 d1) (bt u1 d1) (tp u2 d2) (bt u2 d2)).1 (gSub (tp u1 d1) (bt u1 d1) (tp u2 d2) (bt u2 d2)).2 = bt (u1 * d2 - u2 * d1) (d1 * d2) := by
  refine low_eq (Int.mul_ne_zero (Int.ne_of_gt (bt_pos h1)) (Int.ne_of_gt (bt_pos h2))) (Int.mul_ne_zero h1 h2) ?_
  have x := low_cross u1 d1
  have y := low_cross u2 d2
  show (tp u1 d1 * bt u2 d2 - tp u2 d2 * bt u1 d1) * (d1 * d2) = (u1 * d2 - u2 * d1) * (bt u1 d1 * bt u2 d2)
  rw [Int.sub_mul, Int.sub_mul]
  have e1 : tp u1 d1 * bt u2 d2 * (d1 * d2) = u1 * d2 * (bt u1 d1 * bt u2 d2) := by
    calc tp u1 d1 * bt u2 d2 * (d1 * d2) = (tp u1 d1 * d1) * (bt u2 d2 * d2) := by ac_rfl
      _ = (u1 * bt u1 d1) * (bt u2 d2 * d2) := by rw [x]
      _ = u1 * d2 * (bt u1 d1 * bt u2 d2) := by ac_rfl
  have e2 : tp u2 d2 * bt u1 d1 * (d1 * d2) = u2 * d1 * (bt u1 d1 * bt u2 d2) := by
    calc tp u2 d2 * bt u1 d1 * (d1 * d2) = (tp u2 d2 * d2) * (bt u1 d1 * d1) := by ac_rfl
      _ = (u2 * bt u2 d2) * (bt u1 d1 * d1) := by rw [y]
      _ = u2 * d1 * (bt u1 d1 * bt u2 d2) := by ac_rfl
  rw [e1, e2]
theorem low_mul : tp (gMul (tp u1 d1) (bt u1 d1) (tp u2 d2) (bt u2 d2)).1 (gMul (tp u1 d1) (bt u1 d1) (tp u2 d2) (bt u2 d2)).2 = tp (u1 * u2) (d1 * d2) ∧ bt (gMul (tp u1 d1) (bt u1 d1) (tp u2 d2) (bt u2 d2)).1 (gMul (tp u1 d1) (bt u1 d1) (tp u2 d2) (bt u2 d2)).2 = bt (u1 * u2) (d1 * d2) := by
  refine low_eq (Int.mul_ne_zero (Int.ne_of_gt (bt_pos h1)) (Int.ne_of_gt (bt_pos h2))) (Int.mul_ne_zero h1 h2) ?_
  have x := low_cross u1 d1
  have y := low_cross u2 d2
  show (tp u1 d1 * tp u2 d2) * (d1 * d2) = (u1 * u2) * (bt u1 d1 * bt u2 d2)
  calc (tp u1 d1 * tp u2 d2) * (d1 * d2) = (tp u1 d1 * d1) * (tp u2 d2 * d2) := by ac_rfl
    _ = (u1 * bt u1 d1) * (u2 * bt u2 d2) := by rw [x, y]
    _ = (u1 * u2) * (bt u1 d1 * bt u2 d2) := by ac_rfl
theorem low_over (h3 : u2 ≠ 0) : tp (tp u1 d1 * bt u2 d2) (bt u1 d1 * tp u2 d2) = tp (u1 * d2) (d1 * u2) ∧ bt (tp u1 d1 * bt u2 d2) (bt u1 d1 * tp u2 d2) = bt (u1 * d2) (d1 * u2) := by
  have t0 : tp u2 d2 ≠ 0 := fun z => h3 ((tp_zero h2).mp z)
  refine low_eq (Int.mul_ne_zero (Int.ne_of_gt (bt_pos h1)) t0) (Int.mul_ne_zero h1 h3) ?_
  have x := low_cross u1 d1
  have y := low_cross u2 d2
  calc (tp u1 d1 * bt u2 d2) * (d1 * u2) = (tp u1 d1 * d1) * (u2 * bt u2 d2) := by ac_rfl
    _ = (u1 * bt u1 d1) * (tp u2 d2 * d2) := by rw [x, y]
    _ = (u1 * d2) * (bt u1 d1 * tp u2 d2) := by ac_rfl
theorem gap_eq : (decide (tp u1 d1 = tp u2 d2) && decide (bt u1 d1 = bt u2 d2)) = decide ((u1 * d2 - u2 * d1) * d1 * d2 = 0) := by
  rw [← Bool.decide_and]
  refine decide_eq_decide.mpr ((low_iff h1 h2).trans ⟨fun e => ?_, fun e => ?_⟩)
  · rw [e, Int.sub_self, Int.zero_mul, Int.zero_mul]
  · have z := (Int.mul_eq_zero.mp e).resolve_right h2
    have z := (Int.mul_eq_zero.mp z).resolve_right h1
    omega
theorem gap_lt : decide (tp u1 d1 * bt u2 d2 < tp u2 d2 * bt u1 d1) = decide ((u1 * d2 - u2 * d1) * d1 * d2 < 0) := decide_eq_decide.mpr (low_lt h1 h2)
end
theorem low_neg {u d : Int} (h : d ≠ 0) : tp (-tp u d) (bt u d) = tp (0 - u) d ∧ bt (-tp u d) (bt u d) = bt (0 - u) d := by
  refine low_eq (Int.ne_of_gt (bt_pos h)) h ?_
  rw [Int.neg_mul, low_cross, Int.zero_sub, Int.neg_mul]
end B2
set_option maxRecDepth 100000
set_option maxHeartbeats 4000000
set_option exponentiation.threshold 10000
namespace B2
open PySem PySem.Spec PyProof.Rows L2 RX LP XO
abbrev sTwo : Stmt := top 20
section
variable {K : PySem.W.Frag} {σ : L2.St} {H : Hp} {D : Ends} {u : TS} {a : Addr} {x y : V} {i j k : Nat}
theorem sq_unp (h : σ[k]? = some (some (.ref a))) (e : H a = some (.tup [x, y])) (q : u D ((σ.set i (some x)).set j (some y)) H) : tSeq (tAsg (tVar k) (gTup K 2 (gCons (gName i) (gCons (gName j) gNil)))) u D σ H :=
  ⟨.ref a, h, a, _, rfl, SqT.of e, rfl, _, _, rfl, _, _, rfl, rfl, q⟩
end
/-- a def of the class that is found by an operator -/
def OpF (P : Program) (w : World) (K : PySem.W.Frag) (mg : Str → Option Value) (base : Heap) (CX : CXT) (k : Nat) (C : Addr) (ps : List Str) (name : Str) (sp : Sp) : Prop := ∃ (f : Addr) (fd : FuncData), FnOk P w K mg base CX k f fd ps sp ∧ Own K C f name ∧ Binds K fd ps []
/-- a method: called by place, or with its argument's name -/
def MtF (P : Program) (w : World) (K : PySem.W.Frag) (mg : Str → Option Value) (base : Heap) (CX : CXT) (k : Nat) (C : Addr) (m : Str) (sp : Sp) : Prop := ∃ (f : Addr) (fd : FuncData), FnOk P w K mg base CX k f fd ["self", "other"] sp ∧ Meth K C m f ∧ Binds K fd ["self", "other"] [] ∧ KBinds K fd ["self", "other"] ["other"] g11 g11
/-- C(bottom = .., top = ..) -/
def gKw {α : Type} : List α → List α → List α
  | [a], [b, t] => [a, t, b]
  | _, _ => []
structure RR (P : Program) (w : World) (K : PySem.W.Frag) (mg : Str → Option Value) (base : Heap) (C CI CQ : Addr) : Prop where
  sf : PySem.W.selfFirst K C = true
  nf : PySem.W.notFirst K C (.ref C) = true
  nfI : PySem.W.notFirst K C (.type "int") = true
  nfT : PySem.W.notFirst K C (.type "tuple") = true
  ne : PySem.W.findIn K (.ref C) "__ne__" = some (some (.builtin "object.__ne__"))
  add : OpF P w K mg base CX0 4 C ["self", "other"] (PySem.dunder Operator.Add.info.2) (spBin C gAdd)
  sub : OpF P w K mg base CX0 4 C ["self", "other"] (PySem.dunder Operator.Sub.info.2) (spBin C gSub)
  mul : OpF P w K mg base CX0 4 C ["self", "other"] (PySem.dunder Operator.Mult.info.2) (spBin C gMul)
  neg : OpF P w K mg base CX0 4 C ["self"] "__neg__" (spNeg C)
  eq : OpF P w K mg base CX0 1 C ["self", "other"] "__eq__" (spEq K C)
  boo : OpF P w K mg base CX0 1 C ["self"] "__bool__" (spBool C)
  und : MtF P w K mg base CX0 1 C "under" (spUnder C)
  ovr : MtF P w K mg base (L2.CX P w) 4 C "over" (spOver C CQ)
  of : ∃ (mc : Value) (p g : Addr) (fd : FuncData), ClX.CRead K C mc ∧ ClX.CMet K C mc "of" p g ∧ FnOk P w K mg base (L2.CX P w) 4 g fd ["cls", "number"] (spOf K C CI) ∧ Binds K fd ["cls", "number"] [] ∧ KBinds K fd ["cls", "number"] ["number"] g11 g11
  mkr : ∃ (fI : Addr) (fdI : FuncData), RMk P w K mg base C CI fI fdI ∧ KBn K fdI psI 1 ["bottom", "top"] gKw gKw
/-- the def that calls what it gets -/
structure HAt (K : PySem.W.Frag) (mg : Str → Option Value) (g : Addr) : Prop where
  mg : mg "_law_heard" = some (.ref g)
  kp : PySem.W.keepIn K (.ref g) = true
  ex : ∃ (oc : Value) (od an : Option Addr) (osl : Array (Option Value)) (kV doc pm cdv ct : Value), K.lookup g = some ⟨oc, od, .func (PySem.W.fnOf "_law_heard" "_law_heard" (defArgs sHeard) (defBody sHeard) (defScope sHeard) .none kV doc pm an cdv ct), osl⟩ ∧ PySem.W.codeIn K cdv "_law_heard" = true
/-- the tables of the two defs that make lambdas -/
def lamQ (q : Str) : Str := (envOfC q (defScope sTwo) 0 0 .none).qual ++ "<lambda>"
def tabs (P1 P2 : Addr) : List (Addr × Str) := [(P1, lamQ "_law_two_right"), (P2, lamQ "_law_odd_right")]
theorem tabs1 {P1 P2 : Addr} (ne : P1 ≠ P2) : ∀ p ∈ tabs P1 P2, p.1 = P1 → p.2 = lamQ "_law_two_right" := fun p hp e => by
  rcases List.mem_cons.mp hp with rfl | hp
  · rfl
  · rcases List.mem_cons.mp hp with rfl | hp
    · exact absurd e.symm ne
    · cases hp
theorem tabs2 {P1 P2 : Addr} (ne : P1 ≠ P2) : ∀ p ∈ tabs P1 P2, p.1 = P2 → p.2 = lamQ "_law_odd_right" := fun p hp e => by
  rcases List.mem_cons.mp hp with rfl | hp
  · exact absurd e ne
  · rcases List.mem_cons.mp hp with rfl | hp
    · rfl
    · cases hp
/-- numbers that the law draws -/
structure Nm (u d : Int) : Prop where
  d0 : d ≠ 0
  bu : u.natAbs ≤ 1000000
  bd : d.natAbs ≤ 1000
theorem sz_of {i : Int} {n : Nat} (h : i.natAbs ≤ n) (hn : n < 2 ^ 1000 := by decide) : Sz i := Nat.lt_of_le_of_lt h hn
theorem bm {a b : Int} {m n : Nat} (h : a.natAbs ≤ m) (h' : b.natAbs ≤ n) : (a * b).natAbs ≤ m * n := by
  rw [Int.natAbs_mul]
  exact Nat.mul_le_mul h h'
theorem lt19 {i : Int} {n : Nat} (h : i.natAbs ≤ n) (hn : n < 2 ^ 1900 := by decide) : i.natAbs < 2 ^ 1900 := Nat.lt_of_le_of_lt h hn
def shB (d : PyData) : Bool := d.showable && decide (d.depth ≤ 64) && decide (d.shown.length ≤ 1000)
theorem sh_of {d : PyData} (h : shB d = true) : Sh d := by
  unfold shB at h
  simp only [Bool.and_eq_true, decide_eq_true_eq] at h
  exact ⟨h.1.1, h.1.2, Nat.le_trans h.2 (by decide)⟩
theorem sh_four : ∀ a b c d : Bool, shB (.list [.bool a, .bool b, .bool c, .bool d]) = true := by decide +kernel
theorem rd_bools {H : Hp} (a b c d : Bool) : RelA H [IsP (.bl a), IsP (.bl b), IsP (.bl c), IsP (.bl d)] [.bool a, .bool b, .bool c, .bool d] := by
  refine ⟨fun v e => ?_, fun v e => ?_, fun v e => ?_, fun v e => ?_, trivial⟩
  all_goals
    rw [show v = _ from e]
    exact .bl _
end B2
set_option maxRecDepth 100000
set_option maxHeartbeats 1000000
set_option exponentiation.threshold 10000
namespace B2
open PySem PySem.Spec PyProof.Rows L2 RX LP XO
/-- a def as it stands behind the top, its code object known -/
structure FunC (K : PySem.W.Frag) (x : Str) (st : Stmt) (f : Addr) (fd : FuncData) (c : Addr) : Prop where
  ex : ∃ (oc : Value) (od : Option Addr) (kV doc pm : Value) (an : Option Addr) (ct : Value) (osl : Array (Option Value)),
    fd = PySem.W.fnOf x x (defArgs st) (defBody st) (defScope st) .none kV doc pm an (.ref c) ct ∧ K.lookup f = some ⟨oc, od, .func fd, osl⟩ ∧ PySem.W.codeIn K (.ref c) x = true
def spTwo (C : Addr) (T : List (Addr × Str)) : Sp := fun vs H Q _ => ∃ v1 v2 h t u1 d1 u2 d2, vs = [v1, v2, .ref h, .ref t] ∧ RatP C (tp u1 d1) (bt u1 d1) v1 H ∧ RatP C (tp u2 d2) (bt u2 d2) v2 H ∧ H h = some (.tup [.int u1, .int d1]) ∧ H t = some (.tup [.int u2, .int d2]) ∧
  Nm u1 d1 ∧ Nm u2 d2 ∧ LamX.Tabs T H ∧ ∀ H', LamX.ExtN H H' → LamX.Tabs T H' → Q (.bl true) H'
theorem nmU {t b : Int} : (flds t b).lookup ("under" : Str) = none := flds_no (by decide +kernel) (by decide +kernel)
theorem nmO {t b : Int} : (flds t b).lookup ("over" : Str) = none := flds_no (by decide +kernel) (by decide +kernel)
theorem extN_of {H H' : Hp} (g : Grow H H') : LamX.ExtN H H' := fun b o e _ => g b o e
theorem stb_lstN {Ps : List PV} (s : StbA Ps) : Stb (LstN Ps) := fun _ _ _ g ⟨p, xs, e, n, h, a⟩ => ⟨p, xs, e, n, g _ _ h, a.grow s g⟩
section
variable {σ : L2.St} {H : Hp} {ta : TE} {i j : Int} {c : TT} {b : Bool}
theorem v_lt (ha : Val ta σ H (.int i)) : Val (tOp (rI0 fun i j => V.bl (decide (i < j))) ta (tC (.int j))) σ H (.bl (decide (i < j))) := val_op ha val_c fun Q q => ⟨_, _, rfl, rfl, q⟩
theorem dec_int : decide (V.int i = V.int j) = decide (i = j) := decide_eq_decide.mpr ⟨fun e => V.int.inj e, fun e => by rw [e]⟩
theorem v_eq (ha : Val ta σ H (.int i)) : Val (tOp rEq ta (tC (.int j))) σ H (.bl (decide (i = j))) := val_op ha val_c fun Q q => ⟨rfl, by rw [dec_int]; exact q⟩
theorem v_ne (ha : Val ta σ H (.int i)) : Val (tOp rNe ta (tC (.int j))) σ H (.bl (!decide (i = j))) := val_op ha val_c fun Q q => ⟨rfl, by rw [dec_int]; exact q⟩
theorem evb_ans (h : ∀ H', Ans c σ H' b) : EvB c σ H b := fun H1 _ Q q => h H1 Q (q H1 grow_rfl)
end
section
variable {P : Program} {w : World} {K : PySem.W.Frag} {mg : Str → Option Value} {base : Heap} {C CI CQ CF : Addr}
theorem fnC_of {x : Str} {st : Stmt} {f c : Addr} {fd : FuncData} {N ps : List Str} {k : Nat} {sp : Sp} (F : FunC K x st f fd c) (S : FnScope N ps (defScope st)) (len : ∀ vs H Q E, sp vs H Q E → vs.length = ps.length)
    (hbody : ∀ (A : Around) (outer : List Env) (s : Shared) (H : Hp) (vs : List V) (Q : VK) (E : XK), Room k (A.deeper (envOfC x (defScope st) s.heap.objs.size f (.ref c))) → (A.deeper (envOfC x (defScope st) s.heap.objs.size f (.ref c))).guards = some [] → sp vs H Q E →
      ∃ t, PSs (cxOf CX0 P w K mg base N x (defScope st) f (.ref c) A outer s H E).nox (defBody st) t ∧ t { nx := fun _ H' => Q .non H', rt := Q } (start N vs) H) : FnG P w K mg base (k + 1) f fd ps sp := by
  obtain ⟨oc, od, kV, doc, pm, an, ct, osl, rfl, lk, hcd⟩ := F.ex
  refine ⟨len, fun A outer s H args us vs Q E hr hgd e0 hb r hsp => ?_⟩
  exact XO.run_at lk hcd S hr e0 hb r (len _ _ _ _ hsp) fun hr' => hbody A outer s H vs Q E hr' hgd hsp
abbrev nsTwo : List Str := ["_law_one", "_law_two", "_law_here", "_law_there", "_law_up", "_law_down", "_law_high", "_law_low", "_law_gap", "_law_told", "_law_found"]
abbrev psTwo : List Str := ["_law_one", "_law_two", "_law_here", "_law_there"]
theorem scTwo : FnScope nsTwo psTwo (defScope sTwo) := ⟨rfl, rfl, rfl, by decide +kernel, rfl, by decide +kernel, by decide +kernel⟩
theorem ok_two {f c P1 P2 g fIs : Addr} {fd fdIs : FuncData} (F : FunC K "_law_two_right" sTwo f fd c) (T : RTx K mg C CI CQ) (B : Bl mg) (HT : HTx K mg CI CQ CF) (R : RR P w K mg base C CI CQ)
    (GIs : FnG P w K mg base 3 fIs fdIs ["_law_found", "_law_up", "_law_down"] (spIs C)) (DIs : At K mg "_law_is" fIs fdIs ["_law_found", "_law_up", "_law_down"]) (HH : HAt K mg g) (TB : LamX.TabB base mg c P1) (ne : P1 ≠ P2) :
    FnG P w K mg base 8 f fd psTwo (spTwo C (tabs P1 P2)) := by
  refine fnC_of F scTwo (fun vs H Q E h => ?_) (fun A outer s H vs Q E hr hg h => ?_)
  · obtain ⟨v1, v2, h, t, u1, d1, u2, d2, rfl, _⟩ := h
    rfl
  · obtain ⟨v1, v2, h, t, u1, d1, u2, d2, rfl, p1, p2, eh, et, N1, N2, hT, q⟩ := h
    obtain ⟨fA, dA, GA, OA, bA⟩ := R.add
    obtain ⟨fS, dS, GS, OS, bS⟩ := R.sub
    obtain ⟨fM, dM, GM, OM, bM⟩ := R.mul
    obtain ⟨fN, dN, GN, ON, bN⟩ := R.neg
    obtain ⟨fE, dE, GE, OE, bE⟩ := R.eq
    obtain ⟨fU, dU, GU, MU, bU, kU⟩ := R.und
    obtain ⟨fO, dO, GO, MO, bO, kO⟩ := R.ovr
    obtain ⟨oc, od, an, osl, kV, doc, pm, cdv, ct, lk, hcg⟩ := HH.ex
    have nd := scTwo.nd
    have hu : (A.deeper (envOfC "_law_two_right" (defScope sTwo) s.heap.objs.size f (.ref c))).units + 65 < cLine := by
      have := hr.un
      omega
    refine ⟨_, pss_cons (ps_asg (pv 2) (pg_tup (by rfl) (pgs_cons (pg_name (i := 4) nd rfl (Or.inr rfl)) (pgs_cons (pg_name (i := 5) nd rfl (Or.inr rfl)) pgs_nil))))
      (pss_cons (ps_asg (pv 3) (pg_tup (by rfl) (pgs_cons (pg_name (i := 6) nd rfl (Or.inr rfl)) (pgs_cons (pg_name (i := 7) nd rfl (Or.inr rfl)) pgs_nil))))
      (pss_cons (ps_if (pt_not (pt_val (pe_callG GIs (hr.mono (by decide)) hg (by rfl) DIs.mg DIs.kp DIs.b (pa_cons (pe_op (op_own (E := E0) GA R.sf OA (hr.mono (by decide)) bA pass0) (pv 0) (pv 1))
          (pa_cons (pe_op op_add (pe_op op_mulW (pv 4) (pv 7)) (pe_op op_mulW (pv 6) (pv 5))) (pa_cons (pe_op op_mulW (pv 5) (pv 7)) pa_nil)))))) (pss_one (ps_ret pe_bl)) pss_nil)
      (pss_cons (ps_if (pt_not (pt_val (pe_callG GIs (hr.mono (by decide)) hg (by rfl) DIs.mg DIs.kp DIs.b (pa_cons (pe_op (op_own (E := E0) GS R.sf OS (hr.mono (by decide)) bS pass0) (pv 0) (pv 1))
          (pa_cons (pe_op op_sub (pe_op op_mulW (pv 4) (pv 7)) (pe_op op_mulW (pv 6) (pv 5))) (pa_cons (pe_op op_mulW (pv 5) (pv 7)) pa_nil)))))) (pss_one (ps_ret pe_bl)) pss_nil)
      (pss_cons (ps_if (PW.pt (pw_or (pt_not (pt_val (pe_callG GIs (hr.mono (by decide)) hg (by rfl) DIs.mg DIs.kp DIs.b (pa_cons (pe_op (op_own (E := E0) GM R.sf OM (hr.mono (by decide)) bM pass0) (pv 0) (pv 1))
          (pa_cons (pe_op op_mulW (pv 4) (pv 6)) (pa_cons (pe_op op_mulW (pv 5) (pv 7)) pa_nil))))))
          (pw_or1 (pt_not (pt_val (pe_callG GIs (hr.mono (by decide)) hg (by rfl) DIs.mg DIs.kp DIs.b (pa_cons (pe_un (un_own (E := E0) GN ON (hr.mono (by decide)) bN pass0) (pv 0)) (pa_cons (pe_op op_sub pe_int (pv 4)) (pa_cons (pv 5) pa_nil))))))))) (pss_one (ps_ret pe_bl)) pss_nil)
      (pss_cons (ps_set (i := 8) nd rfl (Or.inl rfl) (pe_op op_mulW (pe_op op_mulW (pe_op op_sub (pe_op op_mulW (pv 4) (pv 7)) (pe_op op_mulW (pv 6) (pv 5))) (pv 5)) (pv 7)))
      (pss_cons (ps_set (i := 9) nd rfl (Or.inl rfl) (pe_lstN (pa_cons (pe_meth (E := E0) (pv 0) T.cl MU GU (hr.mono (by decide)) bU .nil pass0 (pa_cons (pv 1) pa_nil))
          (pa_cons (pe_methK (E := E0) (pv 0) T.cl MU GU (hr.mono (by decide)) kU pass0 (pk_cons (pv 1) pk_nil))
          (pa_cons (pe_cmpR (op_eqO (E := E0) GE OE (hr.mono (by decide)) bE pass0) (pv 0) (pv 1) (nomark _))
          (pa_cons (pe_cmpR (op_neO (E := E0) GE OE R.ne T.hm (hr.mono (by decide)) bE pass0) (pv 0) (pv 1) (nomark _)) pa_nil))))))
      (pss_cons (ps_if (pt_cmpR op_ne (pe_callB (call_repr hg hu) (by rfl) B.repr (by decide +kernel) (pa_cons (pv 9) pa_nil)) (pe_callB (call_repr hg hu) (by rfl) B.repr (by decide +kernel) (pa_cons (pe_lstN (pa_cons (pe_cmpR op_lt (pv 8) pe_int (nomark _))
          (pa_cons (pe_cmpR op_lt (pv 8) pe_int (nomark _)) (pa_cons (pe_cmpR op_eq (pv 8) pe_int (nomark _)) (pa_cons (pe_cmpR op_ne (pv 8) pe_int (nomark _)) pa_nil))))) pa_nil)) (nomark _)) (pss_one (ps_ret pe_bl)) pss_nil)
      (pss_cons (ps_if (pt_cmpR op_eq (pv 6) pe_int (nomark _))
          (pss_one (ps_ret (pe_cmpR op_eq (LamX.pe_lamcall (T := tabs P1 P2) (TT := TTh CI CQ) (Ng := nsH) (k := 4) (c := c) (P := P1) (t := fun E => tMeth C "over" (spOver C CQ) [] E (tVar 0) (tCons (tVar 1) tNil)) (by rfl) HH.mg HH.kp lk hcg
            (.all fun us hl => match us, hl with | [_], _ => rfl) scHeard rfl (.inl rfl) (heard_gives HT B _) TB rfl (by show (P1, lamQ "_law_two_right") ∈ tabs P1 P2; exact List.mem_cons_self) (tabs1 ne) (hr.mono (by decide)) (LamX.lamS_by (by show LamX.lamSB (defScope sTwo) _ = true; decide +kernel)) rfl (fun _ _ _ _ _ => rfl)
            (fun A2 outer2 s2 H2 E2 f2 c2 hr2 => pe_meth (E := E2) (pv 0) T.cl MO GO hr2 bO .nil (passes_call (E := E2) (takes_of rfl rfl rfl rfl) fun _ _ _ _ z => z) (pa_cons (pv 1) pa_nil))) pe_str (nomark _)))) pss_nil)
      (pss_cons (ps_set (i := 9) nd rfl (Or.inl rfl) (pe_lst (pa_cons (pe_meth (E := E0) (pv 0) T.cl MO GO (hr.mono (by decide)) bO .nil passL (pa_cons (pv 1) pa_nil))
          (pa_cons (pe_methK (E := E0) (pv 0) T.cl MO GO (hr.mono (by decide)) kO passL (pk_cons (pv 1) pk_nil)) pa_nil))))
      (pss_one (ps_ret (pe_cmpR (op_eqD hr.units) (pe_lc (own := [("_law_found", 10)]) (g := gName 10) (by rfl) nd (pi_list (pv 9)) (blkOk_by (own := [("_law_found", 10)]) (N := nsTwo) (sc := defScope sTwo) (by decide +kernel)) (fun _ _ _ _ _ => pg_name (i := 10) nd rfl (Or.inl rfl))
          (fun _ _ _ _ _ => pts_one (pt_not (pt_val (pe_callG GIs (hr.mono (by decide)) hg (by rfl) DIs.mg DIs.kp DIs.b (pa_cons (pv 10) (pa_cons (pe_op op_mulW (pv 4) (pv 7)) (pa_cons (pe_op op_mulW (pv 5) (pv 6)) pa_nil)))))))
          (fun _ _ _ _ _ => pv 10)) (pe_lst pa_nil) (nomark _))))))))))))), ?_⟩
    show tSeq _ _ _ [some v1, some v2, some (V.ref h), some (V.ref t), none, none, none, none, none, none, none] H
    have nb1 : bt u1 d1 ≠ 0 := Int.ne_of_gt (bt_pos N1.d0)
    have nb2 : bt u2 d2 ≠ 0 := Int.ne_of_gt (bt_pos N2.d0)
    have sT1 : Sz (tp u1 d1) := sz_of (Nat.le_trans (tp_le u1 d1) N1.bu)
    have sB1 : Sz (bt u1 d1) := sz_of (Nat.le_trans (bt_le u1 d1) N1.bd)
    have sT2 : Sz (tp u2 d2) := sz_of (Nat.le_trans (tp_le u2 d2) N2.bu)
    have sB2 : Sz (bt u2 d2) := sz_of (Nat.le_trans (bt_le u2 d2) N2.bd)
    have su1 : Sz u1 := sz_of N1.bu
    have sd1 : Sz d1 := sz_of N1.bd
    have su2 : Sz u2 := sz_of N2.bu
    have sd2 : Sz d2 := sz_of N2.bd
    have m1 : (u1 * d2).natAbs ≤ 1000000000 := bm N1.bu N2.bd
    have m2 : (u2 * d1).natAbs ≤ 1000000000 := bm N2.bu N1.bd
    have m3 : (d1 * d2).natAbs ≤ 1000000 := bm N1.bd N2.bd
    have m4 : (u1 * u2).natAbs ≤ 1000000000000 := bm N1.bu N2.bu
    have m5 : (d1 * u2).natAbs ≤ 1000000000 := bm N1.bd N2.bu
    refine sq_unp rfl eh ?_
    refine sq_unp rfl et ?_
    show tSeq _ _ _ [some v1, some v2, some (V.ref h), some (V.ref t), some (V.int u1), some (V.int d1), some (V.int u2), some (V.int d2), none, none, none] H
    have one : ∀ {σ : L2.St} {H' : Hp}, σ[0]? = some (some v1) → Grow H H' → EvP (tVar 0) σ H' (RatP C (tp u1 d1) (bt u1 d1)) := fun hs g => evp_var hs (stb_rat _ _ _ g p1) stb_rat
    have two : ∀ {σ : L2.St} {H' : Hp}, σ[1]? = some (some v2) → Grow H H' → EvP (tVar 1) σ H' (RatP C (tp u2 d2) (bt u2 d2)) := fun hs g => evp_var hs (stb_rat _ _ _ g p2) stb_rat
    have val_sub : ∀ {σ : L2.St} {H' : Hp} {ta tb : TE} {i j : Int}, Val ta σ H' (.int i) → Val tb σ H' (.int j) → Val (tOp (rI0 fun i j => V.int (i - j)) ta tb) σ H' (.int (i - j)) := fun ha hb => val_op ha hb fun Q q => ⟨_, _, rfl, rfl, q⟩
    have val_add : ∀ {σ : L2.St} {H' : Hp} {ta tb : TE} {i j : Int}, Val ta σ H' (.int i) → Val tb σ H' (.int j) → Val (tOp (rI0 fun i j => V.int (i + j)) ta tb) σ H' (.int (i + j)) := fun ha hb => val_op ha hb fun Q q => ⟨_, _, rfl, rfl, q⟩
    refine sq_no (evb_no (evp_is (evp_bin (one rfl grow_rfl) (two rfl grow_rfl) nb1 nb2 sT1 sB1 sT2 sB2) (evp_val fun H' => val_add (v_mul (val_var rfl) (val_var rfl) su1 sd2) (v_mul (val_var rfl) (val_var rfl) su2 sd1)) (evp_val fun H' => v_mul (val_var rfl) (val_var rfl) sd1 sd2)
      (low_add N1.d0 N2.d0) (Int.mul_ne_zero N1.d0 N2.d0) (lt19 (n := 2000000000) (by omega)) (lt19 m3))) fun H1 g1 => ?_
    refine sq_no (evb_no (evp_is (evp_bin (one rfl g1) (two rfl g1) nb1 nb2 sT1 sB1 sT2 sB2) (evp_val fun H' => val_sub (v_mul (val_var rfl) (val_var rfl) su1 sd2) (v_mul (val_var rfl) (val_var rfl) su2 sd1)) (evp_val fun H' => v_mul (val_var rfl) (val_var rfl) sd1 sd2)
      (low_sub N1.d0 N2.d0) (Int.mul_ne_zero N1.d0 N2.d0) (lt19 (n := 2000000000) (by omega)) (lt19 m3))) fun H2 g2 => ?_
    have G2 := g1.tr g2
    refine sq_no (evb_or (evb_no (evp_is (evp_bin (one rfl G2) (two rfl G2) nb1 nb2 sT1 sB1 sT2 sB2) (evp_val fun H' => v_mul (val_var rfl) (val_var rfl) su1 su2) (evp_val fun H' => v_mul (val_var rfl) (val_var rfl) sd1 sd2)
      (low_mul N1.d0 N2.d0) (Int.mul_ne_zero N1.d0 N2.d0) (lt19 m4) (lt19 m3)))
      (evb_no (evp_is (evp_neg (one rfl G2) nb1 sT1 sB1) (evp_val fun H' => val_sub val_c (val_var rfl)) (evp_val fun H' => val_var rfl) (low_neg N1.d0) N1.d0 (lt19 (n := 1000000) (by have := N1.bu; omega)) (lt19 N1.bd)))) fun H3 g3 => ?_
    have G3 := G2.tr g3
    have m6 : ((u1 * d2 - u2 * d1) * d1).natAbs ≤ 2000000000 * 1000 := bm (by omega) N1.bd
    refine sq_set (evp_val fun H' => v_mul (v_mul (val_sub (v_mul (val_var rfl) (val_var rfl) su1 sd2) (v_mul (val_var rfl) (val_var rfl) su2 sd1)) (val_var rfl) (sz_of (n := 2000000000) (by omega)) sd1) (val_var rfl) (sz_of m6) sd2) fun v8 H4 g4 e8 => ?_
    rw [show v8 = _ from e8]
    have G4 := G3.tr g4
    have m7 : ((u1 * d2 - u2 * d1) * d1 * d2).natAbs ≤ 2000000000 * 1000 * 1000 := bm m6 N2.bd
    have gL := gap_lt (u1 := u1) (u2 := u2) N1.d0 N2.d0
    have gE := gap_eq (u1 := u1) (u2 := u2) N1.d0 N2.d0
    generalize (u1 * d2 - u2 * d1) * d1 * d2 = gap at gL gE ⊢
    show tSeq _ _ _ [some v1, some v2, some (V.ref h), some (V.ref t), some (V.int u1), some (V.int d1), some (V.int u2), some (V.int d2), some (V.int gap), none, none] H4
    have sbs : ∀ b1 b2 b3 b4 : V, StbA [IsP b1, IsP b2, IsP b3, IsP b4] := fun _ _ _ _ => ⟨stb_is, stb_is, stb_is, stb_is, trivial⟩
    refine sq_set (evp_lstN (Nat.le_of_ble_eq_true rfl) (EvPs.cons stb_is (evp_under nmU (one rfl G4) (two rfl G4) sT1 sB1 sT2 sB2) (EvPs.cons stb_is (evp_underK nmU (one rfl G4) (two rfl G4) sT1 sB1 sT2 sB2)
      (EvPs.cons stb_is (evp_eq T R.nf (one rfl G4) (two rfl G4)) (EvPs.cons stb_is (evp_ne T R.nf (one rfl G4) (two rfl G4)) EvPs.nil)))) (sbs _ _ _ _)) fun v9 H5 g5 p9 => ?_
    have G5 := G4.tr g5
    rw [gL, gE] at p9
    show tSeq _ _ _ [some v1, some v2, some (V.ref h), some (V.ref t), some (V.int u1), some (V.int d1), some (V.int u2), some (V.int d2), some (V.int gap), some v9, none] H5
    refine sq_no (ne_repr (sh_of (sh_four (decide (gap < 0)) (decide (gap < 0)) (decide (gap = 0)) (!decide (gap = 0)))) (EvP.imp (fun v H h => sh_lst (rd_bools _ _ _ _) h) (evp_var rfl p9 (stb_lstN (sbs _ _ _ _))))
      (EvP.imp (fun v H h => sh_lst (rd_bools _ _ _ _) h) (evp_lstN (Nat.le_of_ble_eq_true rfl) (EvPs.cons stb_is (evp_val fun H' => v_lt (val_var rfl)) (EvPs.cons stb_is (evp_val fun H' => v_lt (val_var rfl)) (EvPs.cons stb_is (evp_val fun H' => v_eq (val_var rfl)) (EvPs.cons stb_is (evp_val fun H' => v_ne (val_var rfl)) EvPs.nil)))) (sbs _ _ _ _)))) fun H6 g6 => ?_
    have G6 := G5.tr g6
    by_cases z2 : u2 = 0
    · refine sA_yes (ans_eq (val_var rfl) val_c rfl (by rw [z2]; rfl)) ?_
      obtain ⟨a, dx, rfl, ea⟩ := p1
      obtain ⟨b, dy, rfl, eb⟩ := p2
      refine ⟨hT.ext G6, fun H7 e7 T7 => ?_⟩
      have ea7 := e7 _ _ (G6 _ _ ea) fun ps z => nomatch z
      have eb7 := e7 _ _ (G6 _ _ eb) fun ps z => nomatch z
      refine ⟨_, rfl, a, dx, _, rfl, ea7, nmO, _, rfl, a, dx, b, dy, _, _, _, _, rfl, ea7, eb7, nb1, sT1, sB1, sT2, sB2, fun _ => ⟨rfl, .inr ⟨rfl, ?_⟩⟩, fun z => absurd ((tp_zero N2.d0).mpr z2) z⟩
      refine ⟨rfl, ?_⟩
      rw [decide_eq_true (rfl : V.str _ = V.str _)]
      exact q H7 ((extN_of G6).trans e7) T7
    · refine sq_no (evb_ans fun H' => ans_eq (b := false) (val_var rfl) val_c rfl (decide_eq_false fun e => z2 (V.int.inj e))) fun H7 g7 => ?_
      have G7 := G6.tr g7
      have t0 : tp u2 d2 ≠ 0 := fun e => z2 ((tp_zero N2.d0).mp e)
      refine sq_set (evp_lst (Nat.le_of_ble_eq_true rfl) (EvPs.cons stb_rat (evp_over nmO (one rfl G7) (two rfl G7) nb1 t0 sT1 sB1 sT2 sB2) (EvPs.cons stb_rat (evp_overK nmO (one rfl G7) (two rfl G7) nb1 t0 sT1 sB1 sT2 sB2) EvPs.nil)) ⟨stb_rat, stb_rat, trivial⟩) fun v10 H8 g8 p10 => ?_
      have G8 := G7.tr g8
      obtain ⟨z, xs, rfl, hz, ap⟩ := p10
      refine ⟨_, rfl, z, rfl, ⟨_, SqL.of hz⟩, fun D hD => ?_⟩
      refine lc_list (K := K) (a := z) (xs := xs) (fun k H' => Grow H8 H' ∧ H' D = some (.lst [])) ⟨grow_new hD, upd_same⟩ (fun i H' _ pv => SqL.of (pv.1 _ _ hz)) (fun i x H' hx pv => ?_) (fun H' pv => ?_)
      · have px : RatP C (tp (tp u1 d1 * bt u2 d2) (bt u1 d1 * tp u2 d2)) (bt (tp u1 d1 * bt u2 d2) (bt u1 d1 * tp u2 d2)) x H8 := by
          match xs, i, ap, hx with
          | [y, y'], 0, ⟨a1, _⟩, e => cases e; exact a1
          | [y, y'], 1, ⟨_, a2, _⟩, e => cases e; exact a2
          | [y, y'], n + 2, _, e => cases e
        refine ⟨rfl, ?_⟩
        refine evb_no (evp_is (evp_var rfl (stb_rat _ _ _ pv.1 px) stb_rat) (evp_val fun H' => v_mul (val_var rfl) (val_var rfl) su1 sd2) (evp_val fun H' => v_mul (val_var rfl) (val_var rfl) sd1 su2) (low_over N1.d0 N2.d0 z2) (Int.mul_ne_zero N1.d0 z2) (lt19 m1) (lt19 m5)) H' grow_rfl _ fun H9 g9 => iteF ⟨pv.1.tr g9, g9 _ _ pv.2⟩
      · refine ⟨(by show 0 ≤ sizeLine; decide), fun p hp => ?_⟩
        refine ⟨.list [], .list [], .lst (SqL.of (by rw [upd_ne (ne_of_none pv.2 hp)]; exact pv.2)) .nil, .lst (SqL.of upd_same) .nil, by decide, by decide, ?_⟩
        exact q _ (extN_of (G8.tr (pv.1.tr (grow_new hp)))) (hT.ext (G8.tr (pv.1.tr (grow_new hp))))
end
end B2
set_option maxRecDepth 100000
set_option maxHeartbeats 2000000
set_option exponentiation.threshold 10000
namespace B2
open PySem PySem.Spec PyProof.Rows L2 RX LP XO
/-! ### what stays -/
/-- all that is known stays, the pen at p and the tables aside -/
def Kp (p : Addr) (H H' : Hp) : Prop := ∀ b o, b ≠ p → (∀ ps, o ≠ .tbl ps) → H b = some o → H' b = some o
theorem Kp.rfl' {p : Addr} {H : Hp} : Kp p H H := fun _ _ _ _ e => e
theorem Kp.tr {p : Addr} {H H1 H2 : Hp} (x : Kp p H H1) (y : Kp p H1 H2) : Kp p H H2 := fun b o n k e => y b o n k (x b o n k e)
theorem Kp.but {p : Addr} {H H' : Hp} (x : But p H H') : Kp p H H' := fun b o n _ e => x b o n e
theorem Kp.ext {p : Addr} {H H' : Hp} (x : LamX.ExtN H H') : Kp p H H' := fun b o _ k e => x b o e k
theorem Kp.grow {p : Addr} {H H' : Hp} (x : Grow H H') : Kp p H H' := fun b o _ _ e => x b o e
/-- where all but lists stays, the tables do -/
theorem tabs_keep {T : List (Addr × Str)} {H H' : Hp} (t : LamX.Tabs T H) (g : ∀ b o, (∀ xs, o ≠ .lst xs) → H b = some o → H' b = some o) : LamX.Tabs T H' := fun p hp => by
  obtain ⟨ps, h1, h2, h3⟩ := t p hp
  refine ⟨ps, g _ _ (fun xs z => nomatch z) h1, h2, fun pos cv hc => ?_⟩
  obtain ⟨c, e, hco⟩ := h3 pos cv hc
  exact ⟨c, e, g _ _ (fun xs z => nomatch z) hco⟩
theorem tabs_but {T : List (Addr × Str)} {H H' : Hp} {p l : Addr} {ns : List Int} {k r : Int} (t : LamX.Tabs T H) (P : PenAt H p l ns k r) (b : But p H H') : LamX.Tabs T H' := tabs_keep t fun c o n e => b c o (fun z => by
  rw [z, P.pen] at e
  exact n _ (Option.some.inj e).symm) e
theorem tabs_lst {T : List (Addr × Str)} {H : Hp} {z : Addr} {xs ys : List V} (t : LamX.Tabs T H) (h : H z = some (.lst xs)) : LamX.Tabs T (upd H z (.lst ys)) := tabs_keep t fun c o n e => by
  rw [upd_ne (fun q => by
    rw [q, h] at e
    exact n _ (Option.some.inj e).symm)]
  exact e
theorem PenAt.ext {H H' : Hp} {p l : Addr} {ns : List Int} {k r : Int} (P : PenAt H p l ns k r) (g : LamX.ExtN H H') : PenAt H' p l ns k r := ⟨g _ _ P.pen (fun _ z => nomatch z), g _ _ P.lst (fun _ z => nomatch z), P.ne, P.len, P.k0⟩
theorem PenAt.upd {H : Hp} {p l z : Addr} {ns : List Int} {k r : Int} {o : HO} (P : PenAt H p l ns k r) (h1 : z ≠ p) (h2 : z ≠ l) : PenAt (upd H z o) p l ns k r := ⟨by rw [upd_ne h1.symm]; exact P.pen, by rw [upd_ne h2.symm]; exact P.lst, P.ne, P.len, P.k0⟩
/-! ### values that make no fraction -/
/-- such a value; r: it is a fraction itself -/
inductive Odd (C p : Addr) (H : Hp) : V → Bool → Prop
  | non : Odd C p H .non false
  | bl (b : Bool) : Odd C p H (.bl b) false
  | str (x : Str) : Odd C p H (.str x) false
  | lst {a : Addr} {xs : List V} (e : H a = some (.lst xs)) (n : a ≠ p) : Odd C p H (.ref a) false
  | tup {a : Addr} {xs : List V} (e : H a = some (.tup xs)) (n : a ≠ p) : Odd C p H (.ref a) false
  | dK {a : Addr} {kvs : List (Key × V)} (e : H a = some (.dK kvs)) (n : a ≠ p) : Odd C p H (.ref a) false
  | rat {a dx : Addr} {fs : List (Str × V)} (e : H a = some (.ins C dx fs)) (n : a ≠ p) : Odd C p H (.ref a) true
theorem Odd.keep {C p : Addr} {H H' : Hp} {v : V} {r : Bool} (o : Odd C p H v r) (k : Kp p H H') : Odd C p H' v r := by
  cases o with
  | non => exact .non
  | bl b => exact .bl b
  | str x => exact .str x
  | lst e n => exact .lst (k _ _ n (fun _ z => nomatch z) e) n
  | tup e n => exact .tup (k _ _ n (fun _ z => nomatch z) e) n
  | dK e n => exact .dK (k _ _ n (fun _ z => nomatch z) e) n
  | rat e n => exact .rat (k _ _ n (fun _ z => nomatch z) e) n
section
variable {K : PySem.W.Frag} {mg : Str → Option Value} {C CI CQ p : Addr} {H : Hp} {v : V} {r : Bool}
theorem Odd.ki (T : RTx K mg C CI CQ) (o : Odd C p H v r) : KI K H v := by
  cases o with
  | non => exact ki_non
  | bl b => exact ki_bl b
  | str x => exact ki_str x
  | lst e n => exact ki_lst e
  | tup e n => exact ki_tup e
  | dK e n => exact ki_dK e
  | rat e n => exact T.ki e
theorem Odd.noInt (o : Odd C p H v r) (u : Int) : v ≠ .int u := by
  cases o <;> exact fun z => nomatch z
theorem Odd.kr (T : RTx K mg C CI CQ) (o : Odd C p H v r) : KR K C H v r := by
  cases o with
  | non => exact ⟨_, .base .non, T.kOf "NoneType" (by simp)⟩
  | bl b => exact ⟨_, .base (.bl b), T.kOf "bool" (by simp)⟩
  | str x => exact ⟨_, .base (.str x), T.kOf "str" (by simp)⟩
  | lst e n => exact ⟨_, .base (.lst e), T.kOf "list" (by simp)⟩
  | tup e n => exact ⟨_, .base (.tup e), T.kOf "tuple" (by simp)⟩
  | dK e n => exact ⟨_, .base (.dK e), T.kOf "dict" (by simp)⟩
  | rat e n => exact T.kr e
theorem kr_int (T : RTx K mg C CI CQ) (u : Int) : KR K C H (.int u) false := ⟨_, .base (.int u), T.kOf "int" (by simp)⟩
end
/-! ### lambdas that are refused -/
section
variable {K : PySem.W.Frag} {mg : Str → Option Value} {C CI CQ : Addr} {T : List (Addr × Str)} {σ : L2.St} {H : Hp} {ta : TA} {vs dvs : List V} {x y : V} {Q : VK}
theorem lam_bad (hT : LamX.Tabs T H) (ha : ∀ H1 (Q : List V → Hp → Prop), Q vs H1 → ta σ H1 Q) (e : vs ++ dvs = [x, y]) (kx : ∀ H1, LamX.ExtN H H1 → KI K H1 x) (ky : ∀ H1, LamX.ExtN H H1 → KI K H1 y) (bad : ∀ u d : Int, x = .int u → y = .int d → d = 0)
    (q : ∀ H', LamX.ExtN H H' → LamX.Tabs T H' → Q (.str "ratio") H') : LamX.tLam T (TTh CI CQ) (fun E => tMake C (spInit K C CI) dvs E ta) σ H Q := ⟨hT, fun H1 e1 T1 => ha H1 _ fun a dx na nd ne => by
  have g := grow_new2 (C := C) na nd ne
  refine ⟨a, dx, x, y, by rw [e], upd_same, (kx H1 e1).grow g, (ky H1 e1).grow g, fun u d h1 h2 h3 => absurd (bad u d h1 h2) h3, fun _ => ⟨rfl, .inl ⟨rfl, q _ (e1.trans (extN_of g)) (T1.ext g)⟩⟩⟩⟩
theorem lam_badK {tk : TA} {zs : List V} (hT : LamX.Tabs T H) (ha : ∀ H1 (Q : List V → Hp → Prop), Q zs H1 → tk σ H1 Q) (hz : zs.length = 2) (e : ∀ a, gKw [a] zs = [a, x, y]) (kx : ∀ H1, LamX.ExtN H H1 → KI K H1 x) (ky : ∀ H1, LamX.ExtN H H1 → KI K H1 y) (bad : ∀ u d : Int, x = .int u → y = .int d → d = 0)
    (q : ∀ H', LamX.ExtN H H' → LamX.Tabs T H' → Q (.str "ratio") H') : LamX.tLam T (TTh CI CQ) (fun E => tMakeK C 0 2 (spInit K C CI) gKw E tNil tk) σ H Q := ⟨hT, fun H1 e1 T1 => ha H1 _ ⟨rfl, hz, fun a dx na nd ne => by
  have g := grow_new2 (C := C) na nd ne
  refine ⟨a, dx, x, y, e _, upd_same, (kx H1 e1).grow g, (ky H1 e1).grow g, fun u d h1 h2 h3 => absurd (bad u d h1 h2) h3, fun _ => ⟨rfl, .inl ⟨rfl, q _ (e1.trans (extN_of g)) (T1.ext g)⟩⟩⟩⟩⟩
theorem lam_of {te : TE} {r : Bool} (hT : LamX.Tabs T H) (ha : ∀ H1 (Q : VK), Q x H1 → te σ H1 Q) (kx : ∀ H1, LamX.ExtN H H1 → KI K H1 x) (kr : ∀ H1, LamX.ExtN H H1 → KR K C H1 x r) (no : ∀ u : Int, x ≠ .int u)
    (q : ∀ H', LamX.ExtN H H' → LamX.Tabs T H' → Q (.str (if r then "" else "ratio")) H') : LamX.tLam T (TTh CI CQ) (fun E => ClX.tCMeth C (fun vs H Q E => spOf K C CI (vs ++ []) H Q E) E (tC (.ref C)) (tCons te tNil)) σ H Q := by
  refine ⟨hT, fun H1 e1 T1 => ⟨rfl, ?_⟩⟩
  refine ha H1 _ ?_
  refine ⟨x, r, rfl, kr H1 e1, kx H1 e1, fun e => ?_, fun _ u e => absurd e (no u), fun e _ H' g => ?_⟩
  · subst e
    exact q H1 e1 T1
  · subst e
    exact ⟨rfl, .inl ⟨rfl, q H' (e1.trans (extN_of g)) (T1.ext g)⟩⟩
end
section
variable {K : PySem.W.Frag} {mg : Str → Option Value} {C CI CQ : Addr} {σ : L2.St} {H : Hp} {te ta tb : TE} {tl : TA} {Ps : List PV} {u d : Int} {E : XK}
/-- a tuple of such values -/
def TupP (Ps : List PV) : PV := fun v H => ∃ (p : Addr) (xs : List V), v = .ref p ∧ H p = some (.tup xs) ∧ AllP Ps xs H
theorem stb_tup {Ps : List PV} (s : StbA Ps) : Stb (TupP Ps) := fun _ _ _ g ⟨p, xs, e, h, a⟩ => ⟨p, xs, e, g _ _ h, a.grow s g⟩
theorem evp_tup (n : Ps.length ≤ 1000) (h : EvPs tl σ H Ps) (s : StbA Ps) : EvP (tTup tl) σ H (TupP Ps) := fun H1 g Q q => h H1 g _ fun xs H2 g2 px =>
  ⟨Nat.le_trans (Nat.le_of_eq px.len) (Nat.le_trans n (by decide)), fun p hp => q _ _ (g2.tr (grow_new hp)) ⟨p, xs, rfl, upd_same, px.grow s (grow_new hp)⟩⟩
def DicP : PV := fun v H => ∃ a, v = .ref a ∧ H a = some (.dK [])
theorem stb_dic : Stb DicP := fun _ _ _ g ⟨a, e, h⟩ => ⟨a, e, g _ _ h⟩
theorem evp_dic : EvP tDNewK σ H DicP := fun H1 g Q q => fun d hd => q _ _ (grow_new hd) ⟨d, rfl, upd_same⟩
theorem evp_mk (ha : EvP ta σ H (IsP (.int u))) (hb : EvP tb σ H (IsP (.int d))) (d0 : d ≠ 0) (bu : u.natAbs < 2 ^ 4000) (bd : d.natAbs < 2 ^ 4000) : EvP (tMake C (spInit K C CI) [] E (tCons ta (tCons tb tNil))) σ H (RatP C (tp u d) (bt u d)) := fun H1 g Q q =>
  ha H1 g _ fun x H2 g2 ex => hb H2 (g.tr g2) _ fun y H3 g3 ey a dx na nd ne => by
    cases (show x = .int u from ex)
    cases (show y = .int d from ey)
    exact ⟨a, dx, .int u, .int d, rfl, upd_same, ki_int u, ki_int d, fun u' d' e1 e2 _ => by
      cases e1
      cases e2
      exact ⟨bu, bd, rfl, q _ _ ((g2.tr g3).tr (grow_make na nd ne)) ⟨a, dx, rfl, upd_same⟩⟩, fun k => absurd (k u d rfl rfl) d0⟩
theorem evp_mk1 (ha : EvP ta σ H (IsP (.int u))) (bu : u.natAbs < 2 ^ 4000) : EvP (tMake C (spInit K C CI) [.int 1] E (tCons ta tNil)) σ H (RatP C (tp u 1) (bt u 1)) := fun H1 g Q q =>
  ha H1 g _ fun x H2 g2 ex a dx na nd ne => by
    cases (show x = .int u from ex)
    exact ⟨a, dx, .int u, .int 1, rfl, upd_same, ki_int u, ki_int 1, fun u' d' e1 e2 _ => by
      cases e1
      cases e2
      exact ⟨bu, by decide, rfl, q _ _ (g2.tr (grow_make na nd ne)) ⟨a, dx, rfl, upd_same⟩⟩, fun k => absurd (k u 1 rfl rfl) (by decide)⟩
theorem evp_mkK (ha : EvP ta σ H (IsP (.int d))) (hb : EvP tb σ H (IsP (.int u))) (d0 : d ≠ 0) (bu : u.natAbs < 2 ^ 4000) (bd : d.natAbs < 2 ^ 4000) : EvP (tMakeK C 0 2 (spInit K C CI) gKw E tNil (tCons ta (tCons tb tNil))) σ H (RatP C (tp u d) (bt u d)) := fun H1 g Q q =>
  ha H1 g _ fun x H2 g2 ex => hb H2 (g.tr g2) _ fun y H3 g3 ey => ⟨rfl, rfl, fun a dx na nd ne => by
    cases (show x = .int d from ex)
    cases (show y = .int u from ey)
    exact ⟨a, dx, .int u, .int d, rfl, upd_same, ki_int u, ki_int d, fun u' d' e1 e2 _ => by
      cases e1
      cases e2
      exact ⟨bu, bd, rfl, q _ _ ((g2.tr g3).tr (grow_make na nd ne)) ⟨a, dx, rfl, upd_same⟩⟩, fun k => absurd (k u d rfl rfl) d0⟩⟩
theorem evp_of (T : RTx K mg C CI CQ) (ha : EvP ta σ H (IsP (.int u))) (bu : u.natAbs < 2 ^ 4000) : EvP (ClX.tCMeth C (fun vs H Q E => spOf K C CI (vs ++ []) H Q E) E (tC (.ref C)) (tCons ta tNil)) σ H (RatP C (tp u 1) (bt u 1)) := fun H1 g Q q =>
  ⟨rfl, ha H1 g _ fun x H2 g2 ex => by
    cases (show x = .int u from ex)
    exact ⟨.int u, false, rfl, kr_int T u, ki_int u, fun e => Bool.noConfusion e, fun _ u' e => by
      cases e
      exact ⟨bu, fun v H' g' pv => q v H' (g2.tr g') pv⟩, fun _ k => absurd rfl (k u)⟩⟩
theorem evp_ofK {t b : Int} (T : RTx K mg C CI CQ) (ha : EvP ta σ H (RatP C t b)) : EvP (tCMethK C (spOf K C CI) E g11 (tC (.ref C)) (tCons ta tNil)) σ H (RatP C t b) := fun H1 g Q q =>
  ⟨rfl, ha H1 g _ fun x H2 g2 ex => by
    obtain ⟨a, dx, rfl, ea⟩ := ex
    exact ⟨.ref a, true, rfl, T.kr ea, T.ki ea, fun _ => q _ _ g2 ⟨a, dx, rfl, ea⟩, fun e => Bool.noConfusion e, fun e => Bool.noConfusion e⟩⟩
theorem evp_and (ha : EvP ta σ H (IsP (.bl true))) (hb : EvP tb σ H (IsP (.bl true))) : EvP (tAndV ta tb) σ H (IsP (.bl true)) := fun H1 g Q q => ha H1 g _ fun x H2 g2 ex => ⟨true, ex, iteT (hb H2 (g.tr g2) Q fun y H3 g3 ey => q y H3 (g2.tr g3) ey)⟩
end
end B2
set_option maxRecDepth 100000
set_option maxHeartbeats 2000000
set_option exponentiation.threshold 10000
namespace B2
open PySem PySem.Spec PyProof.Rows L2 RX LP XO
abbrev sOdd : Stmt := top 21
section
variable {K : PySem.W.Frag} {σ : L2.St} {H : Hp} {ta tb te : TE} {t1 u : TS} {D : Ends} {i : Nat} {y : Addr}
theorem sq_lst1 (h : te σ H fun x H1 => [x].length ≤ sizeLine ∧ ∀ y, H1 y = none → u D (σ.set i (some (.ref y))) (upd H1 y (.lst [x]))) : tSeq (tAsg (tLst (tCons te tNil)) (gName i)) u D σ H := h
theorem sq_ne2 (h : ta σ H fun x H1 => tb σ H1 fun y H2 => rNe x y H2 fun v H3 => ∃ k, v = .bl k ∧ if k = true then t1 { D with nx := u D } σ H3 else u D σ H3) : tSeq (tIfS (tTest (tOp rNe ta tb)) t1 tNext) u D σ H := h
theorem kp_upd {p y : Addr} {H4 Hx H7 : Hp} {o : HO} (F : ∀ b u, b ≠ p → (∀ ps, u ≠ HO.tbl ps) → H4 b = some u → b ≠ y) (k : Kp p H4 Hx) (k' : Kp p Hx H7) : Kp p H4 (upd H7 y o) := fun b u n m e => by
  rw [upd_ne (F b u n m e)]
  exact k' b u n m (k b u n m e)
theorem ev_one : EvP (tLst (tCons (tC (.int 1)) tNil)) σ H (LstP [IsP (.int 1)]) := evp_lst (Nat.le_of_ble_eq_true rfl) (EvPs.cons stb_is evp_c EvPs.nil) ⟨stb_is, trivial⟩
theorem ev_two : EvP (tTup (tCons (tC (.int 1)) (tCons (tC (.int 2)) tNil))) σ H (TupP [IsP (.int 1), IsP (.int 2)]) := evp_tup (Nat.le_of_ble_eq_true rfl) (EvPs.cons stb_is evp_c (EvPs.cons stb_is evp_c EvPs.nil)) ⟨stb_is, stb_is, trivial⟩
theorem sq_app {l : Addr} {xs0 : List V} (h : σ[i]? = some (some (.ref l))) (hy : H l = some (.lst xs0)) (hh : te σ H fun x H1 => rAppend (.ref l) [x] H1 fun _ H' => u D σ H') : tSeq (tDrop (tBM K "list" rAppend (tVar i) (tCons te tNil))) u D σ H :=
  ⟨.ref l, h, .inl ⟨rfl, _, SqL.of hy⟩, hh⟩
theorem allp_is : ∀ {xs ys : List V} {H : Hp}, AllP (xs.map IsP) ys H → ys = xs
  | [], [], _, _ => rfl
  | _ :: _, _ :: _, _, ⟨e, r⟩ => by
    rw [show _ = _ from e, allp_is r]
theorem ne_data {xs : List V} {ds : List PyData} (hd : ∀ H, DpAll K H xs ds) (sh : SeqAt.shaped (.list ds) = true) (hx : EvP ta σ H (LstP (xs.map IsP))) (hy : EvP tb σ H (LstP (xs.map IsP))) : EvB (tTest (tOp (rNeD K) ta tb)) σ H false := fun H1 g Q q =>
  hx H1 g _ fun x H2 g2 ⟨p, us, ex, hp, ap⟩ => hy H2 (g.tr g2) _ fun y H3 g3 ⟨p', ws, ey, hp', ap'⟩ => by
    subst ex ey
    rw [allp_is ap] at hp
    rw [allp_is ap'] at hp'
    refine ⟨.list ds, .list ds, .lst (SqL.of (g3 _ _ hp)) (hd _), .lst (SqL.of hp') (hd _), sh, sh, false, ?_, q H3 (g2.tr g3)⟩
    rw [SeqAt.eqv_refl _ (SeqAt.canLay_of_shaped sh)]
    rfl
end
abbrev nsOdd : List Str := ["_law_pen_here", "_law_odd", "_law_told", "_law_good", "_law_one"]
theorem scOdd : FnScope nsOdd ["_law_pen_here"] (defScope sOdd) := ⟨rfl, rfl, rfl, by decide +kernel, rfl, by decide +kernel, by decide +kernel⟩
def spOdd (T : List (Addr × Str)) : Sp := fun vs H Q _ => ∃ p l ns k r, vs = [.ref p] ∧ PenAt H p l ns k r ∧ k ≤ 9000 ∧ LamX.Tabs T H ∧ ∀ k' r' H', k' ≤ k + 5 → Kp p H H' → PenAt H' p l ns k' r' → LamX.Tabs T H' → Q (.bl true) H'
abbrev oddPs (C : Addr) : List PV := [IsP .non, IsP (.bl true), IsP (.bl false), IsP (.str "1"), IsP (.str ""), LstP [IsP (.int 1)], TupP [IsP (.int 1), IsP (.int 2)], DicP, RatP C (tp 1 2) (bt 1 2)]
theorem odd_stb (C : Addr) : StbA (oddPs C) := ⟨stb_is, stb_is, stb_is, stb_is, stb_is, stb_lst ⟨stb_is, trivial⟩, stb_tup ⟨stb_is, stb_is, trivial⟩, stb_dic, stb_rat, trivial⟩
theorem odd_at {C p l : Addr} {ns : List Int} {k r : Int} {H : Hp} {xs : List V} (P : PenAt H p l ns k r) (a : AllP (oddPs C) xs H) {j : Nat} (hj : j < 9) : ∃ v ro, xs[j]? = some v ∧ Odd C p H v ro := by
  match xs, a with
  | [v0, v1, v2, v3, v4, v5, v6, v7, v8], ⟨a0, a1, a2, a3, a4, a5, a6, a7, a8, _⟩ =>
    match j, hj with
    | 0, _ => exact ⟨v0, _, rfl, by rw [show v0 = _ from a0]; exact .non⟩
    | 1, _ => exact ⟨v1, _, rfl, by rw [show v1 = _ from a1]; exact .bl _⟩
    | 2, _ => exact ⟨v2, _, rfl, by rw [show v2 = _ from a2]; exact .bl _⟩
    | 3, _ => exact ⟨v3, _, rfl, by rw [show v3 = _ from a3]; exact .str _⟩
    | 4, _ => exact ⟨v4, _, rfl, by rw [show v4 = _ from a4]; exact .str _⟩
    | 5, _ =>
      obtain ⟨a, ys, e, h, al⟩ := a5
      subst e
      refine ⟨_, _, rfl, .lst h fun z => ?_⟩
      rw [z, P.pen] at h
      cases h
      exact nomatch al.len
    | 6, _ =>
      obtain ⟨a, ys, e, h, al⟩ := a6
      subst e
      refine ⟨_, _, rfl, .tup h fun z => ?_⟩
      rw [z, P.pen] at h
      cases h
    | 7, _ =>
      obtain ⟨a, e, h⟩ := a7
      subst e
      refine ⟨_, _, rfl, .dK h fun z => ?_⟩
      rw [z, P.pen] at h
      cases h
    | 8, _ =>
      obtain ⟨a, dx, e, h⟩ := a8
      subst e
      refine ⟨_, _, rfl, .rat h fun z => ?_⟩
      rw [z, P.pen] at h
      cases h
    | n + 9, h => exact absurd h (by omega)
section
variable {P : Program} {w : World} {K : PySem.W.Frag} {mg : Str → Option Value} {base : Heap} {C CI CQ CF : Addr}
theorem ok_odd {f c P1 P2 g fIs fD fN : Addr} {fd fdIs fdD fdN : FuncData} (F : FunC K "_law_odd_right" sOdd f fd c) (T : RTx K mg C CI CQ) (B : Bl mg) (HT : HTx K mg CI CQ CF) (R : RR P w K mg base C CI CQ)
    (GIs : FnG P w K mg base 3 fIs fdIs ["_law_found", "_law_up", "_law_down"] (spIs C)) (DIs : At K mg "_law_is" fIs fdIs ["_law_found", "_law_up", "_law_down"]) (HH : HAt K mg g) (TB : LamX.TabB base mg c P2) (ne : P1 ≠ P2)
    (GD : FnOk P w K mg base CX0 1 fD fdD psD spDraw) (DD : At K mg "_law_draw" fD fdD psD) (GN : FnOk P w K mg base CX0 2 fN fdN ["_law_pen_here"] spNumber) (DN : At K mg "_law_number" fN fdN ["_law_pen_here"]) :
    FnG P w K mg base 8 f fd ["_law_pen_here"] (spOdd (tabs P1 P2)) := by
  refine fnC_of F scOdd (fun vs H Q E h => ?_) (fun A outer s H vs Q E hr hg h => ?_)
  · obtain ⟨p, l, ns, k, r, rfl, _⟩ := h
    rfl
  · obtain ⟨p, l, ns, k, r, rfl, hP, hk, hT, q⟩ := h
    obtain ⟨fI, fdI, R1, kb⟩ := R.mkr
    obtain ⟨ds, hd, b1⟩ := R1.b1
    obtain ⟨mc, pO, gO, dO, rd, cm, GOf, bOf, kOf⟩ := R.of
    obtain ⟨oc, od, an, osl, kV, doc, pm, cdv, ct, lk, hcg⟩ := HH.ex
    have nd := scOdd.nd
    have mem : (P2, lamQ "_law_odd_right") ∈ tabs P1 P2 := List.mem_cons_of_mem _ List.mem_cons_self
    refine ⟨_, pss_cons (ps_set (i := 1) nd rfl (Or.inl rfl) (pe_lst (pa_cons pe_non (pa_cons pe_bl (pa_cons pe_bl (pa_cons pe_str (pa_cons pe_str (pa_cons (pe_lst (pa_cons pe_int pa_nil)) (pa_cons (pe_tup (pa_cons pe_int (pa_cons pe_int pa_nil))) (pa_cons pe_dnewK
        (pa_cons (pe_make (E := E0) R1.mkc R1.ok (hr.mono (by decide)) (by rfl) T.gR R1.b2 .nil passL (pa_cons pe_int (pa_cons pe_int pa_nil))) pa_nil)))))))))))
      (pss_cons (ps_asg (pe_tup (pa_cons (pe_ix (r := rIxL K) ix_list (pv 1) (pe_call GD (hr.mono (by decide)) (by rfl) DD.mg DD.kp DD.b .nil pass0 (pa_cons (pv 0) (pa_cons pe_int pa_nil))) (fun _ _ => rfl))
          (pa_cons (pe_call GN (hr.mono (by decide)) (by rfl) DN.mg DN.kp DN.b .nil pass0 (pa_cons (pv 0) pa_nil)) pa_nil))) (pg_tup (by rfl) (pgs_cons (pg_name (i := 4) nd rfl (Or.inr rfl)) (pgs_cons (pg_name (i := 3) nd rfl (Or.inr rfl)) pgs_nil))))
      (pss_cons (ps_set (i := 2) nd rfl (Or.inl rfl) (pe_lst (pa_cons (LamX.pe_lamcall (T := tabs P1 P2) (TT := TTh CI CQ) (Ng := nsH) (k := 4) (c := c) (P := P2) (t := fun E => tMake C (spInit K C CI) [V.int 1] E (tCons (tVar 4) tNil)) (by rfl) HH.mg HH.kp lk hcg
          (.all fun us hl => match us, hl with | [_], _ => rfl) scHeard rfl (.inl rfl) (heard_gives HT B _) TB rfl mem (tabs2 ne) (hr.mono (by decide)) (LamX.lamS_by (by show LamX.lamSB (defScope sOdd) _ = true; decide +kernel)) rfl (fun _ _ _ _ _ => rfl)
          (fun A2 outer2 s2 H2 E2 f2 c2 hr2 => pe_make (E := E2) R1.mkc R1.ok (hr2.mono (by decide)) (by rfl) T.gR b1 hd (passes_call (E := E2) (takes_of rfl rfl rfl rfl) fun _ _ _ _ z => z) (pa_cons (pv 4) pa_nil))) pa_nil)))
      (pss_cons (ps_expr (pe_bm PySem.F.plainAttrs_list PySem.F.slot_list_append PySem.F.type_list_append mt_append (pv 2) (pa_cons (LamX.pe_lamcall (T := tabs P1 P2) (TT := TTh CI CQ) (Ng := nsH) (k := 4) (c := c) (P := P2) (t := fun E => tMake C (spInit K C CI) [] E (tCons (tVar 3) (tCons (tVar 4) tNil))) (by rfl) HH.mg HH.kp lk hcg
          (.all fun us hl => match us, hl with | [_], _ => rfl) scHeard rfl (.inl rfl) (heard_gives HT B _) TB rfl mem (tabs2 ne) (hr.mono (by decide)) (LamX.lamS_by (by show LamX.lamSB (defScope sOdd) _ = true; decide +kernel)) rfl (fun _ _ _ _ _ => rfl)
          (fun A2 outer2 s2 H2 E2 f2 c2 hr2 => pe_make (E := E2) R1.mkc R1.ok (hr2.mono (by decide)) (by rfl) T.gR R1.b2 .nil (passes_call (E := E2) (takes_of rfl rfl rfl rfl) fun _ _ _ _ z => z) (pa_cons (pv 3) (pa_cons (pv 4) pa_nil)))) pa_nil)))
      (pss_cons (ps_expr (pe_bm PySem.F.plainAttrs_list PySem.F.slot_list_append PySem.F.type_list_append mt_append (pv 2) (pa_cons (LamX.pe_lamcall (T := tabs P1 P2) (TT := TTh CI CQ) (Ng := nsH) (k := 4) (c := c) (P := P2) (t := fun E => tMake C (spInit K C CI) [] E (tCons (tVar 3) (tCons (tC (.int 0)) tNil))) (by rfl) HH.mg HH.kp lk hcg
          (.all fun us hl => match us, hl with | [_], _ => rfl) scHeard rfl (.inl rfl) (heard_gives HT B _) TB rfl mem (tabs2 ne) (hr.mono (by decide)) (LamX.lamS_by (by show LamX.lamSB (defScope sOdd) _ = true; decide +kernel)) rfl (fun _ _ _ _ _ => rfl)
          (fun A2 outer2 s2 H2 E2 f2 c2 hr2 => pe_make (E := E2) R1.mkc R1.ok (hr2.mono (by decide)) (by rfl) T.gR R1.b2 .nil (passes_call (E := E2) (takes_of rfl rfl rfl rfl) fun _ _ _ _ z => z) (pa_cons (pv 3) (pa_cons pe_int pa_nil)))) pa_nil)))
      (pss_cons (ps_expr (pe_bm PySem.F.plainAttrs_list PySem.F.slot_list_append PySem.F.type_list_append mt_append (pv 2) (pa_cons (LamX.pe_lamcall (T := tabs P1 P2) (TT := TTh CI CQ) (Ng := nsH) (k := 4) (c := c) (P := P2) (t := fun E => tMakeK C 0 (["bottom", "top"] : List Str).length (spInit K C CI) gKw E tNil (tCons (tVar 3) (tCons (tVar 4) tNil))) (by rfl) HH.mg HH.kp lk hcg
          (.all fun us hl => match us, hl with | [_], _ => rfl) scHeard rfl (.inl rfl) (heard_gives HT B _) TB rfl mem (tabs2 ne) (hr.mono (by decide)) (LamX.lamS_by (by show LamX.lamSB (defScope sOdd) _ = true; decide +kernel)) rfl (fun _ _ _ _ _ => rfl)
          (fun A2 outer2 s2 H2 E2 f2 c2 hr2 => pe_makeK0 (E := E2) R1.mkc R1.ok (hr2.mono (by decide)) (by rfl) T.gR kb (passes_call (E := E2) (takes_of rfl rfl rfl rfl) fun _ _ _ _ z => z) (pk_cons (pv 3) (pk_cons (pv 4) pk_nil)))) pa_nil)))
      (pss_cons (ps_if (pt_cmpR (op_neD hr.units) (pv 2) (pe_op op_rep (pe_lst (pa_cons pe_str pa_nil)) pe_int) (nomark _)) (pss_one (ps_ret pe_bl)) pss_nil)
      (pss_cons (ps_if (pt_cmpR op_ne (LamX.pe_lamcall (T := tabs P1 P2) (TT := TTh CI CQ) (Ng := nsH) (k := 4) (c := c) (P := P2) (t := fun E => ClX.tCMeth C (fun vs H Q E => spOf K C CI (vs ++ []) H Q E) E (tC (.ref C)) (tCons (tVar 4) tNil)) (by rfl) HH.mg HH.kp lk hcg
          (.all fun us hl => match us, hl with | [_], _ => rfl) scHeard rfl (.inl rfl) (heard_gives HT B _) TB rfl mem (tabs2 ne) (hr.mono (by decide)) (LamX.lamS_by (by show LamX.lamSB (defScope sOdd) _ = true; decide +kernel)) rfl (fun _ _ _ _ _ => rfl)
          (fun A2 outer2 s2 H2 E2 f2 c2 hr2 => ClX.pe_cmeth (E := E2) (pe_glob (v := .ref C) (by rfl) T.gR rfl) rd cm (GOf.raw bOf .nil) hr2 (passes_call (E := E2) (takes_of rfl rfl rfl rfl) fun _ _ _ _ z => z) (pa_cons (pv 4) pa_nil)))
          (pe_ifExp (pt_val (pe_callB call_isi (by rfl) B.isi (by decide +kernel) (pa_cons (pv 4) (pa_cons (pe_glob (v := .ref C) (by rfl) T.gR rfl) pa_nil)))) pe_str pe_str) (nomark _)) (pss_one (ps_ret pe_bl)) pss_nil)
      (pss_one (ps_ret (pe_and (pe_callG GIs (hr.mono (by decide)) hg (by rfl) DIs.mg DIs.kp DIs.b (pa_cons (ClX.pe_cmeth (E := E0) (pe_glob (v := .ref C) (by rfl) T.gR rfl) rd cm (GOf.raw bOf .nil) (hr.mono (by decide)) passL (pa_cons (pv 3) pa_nil)) (pa_cons (pv 3) (pa_cons pe_int pa_nil))))
        (pe_one (pe_callG GIs (hr.mono (by decide)) hg (by rfl) DIs.mg DIs.kp DIs.b (pa_cons (pe_cmethK (E := E0) (pe_glob (v := .ref C) (by rfl) T.gR rfl) rd cm GOf (hr.mono (by decide)) kOf passL (pk_cons (pe_make (E := E0) R1.mkc R1.ok (hr.mono (by decide)) (by rfl) T.gR R1.b2 .nil passL (pa_cons (pv 3) (pa_cons pe_int pa_nil))) pk_nil)) (pa_cons (pv 3) (pa_cons pe_int pa_nil))))))))))))))), ?_⟩
    show tSeq _ _ _ [some (V.ref p), none, none, none, none] H
    refine sq_set (evp_lst (Ps := oddPs C) (Nat.le_of_ble_eq_true rfl) (EvPs.cons stb_is evp_c (EvPs.cons stb_is evp_c (EvPs.cons stb_is evp_c (EvPs.cons stb_is evp_c (EvPs.cons stb_is evp_c (EvPs.cons (stb_lst ⟨stb_is, trivial⟩) ev_one
      (EvPs.cons (stb_tup ⟨stb_is, stb_is, trivial⟩) ev_two (EvPs.cons stb_dic evp_dic (EvPs.cons stb_rat (evp_mk evp_c evp_c (by decide) (by decide) (by decide)) EvPs.nil))))))))) (odd_stb C)) fun v1 H1 g1 p1 => ?_
    obtain ⟨z, xs, rfl, hz, ap⟩ := p1
    have hP1 := hP.grow g1
    have nz : z ≠ p := fun e => by
      rw [e, hP1.pen] at hz
      cases hz
      exact nomatch ap.len
    show tSeq _ _ _ [some (V.ref p), some (V.ref z), none, none, none] H1
    refine ⟨_, rfl, _, rfl, p, l, ns, k, r, 9, rfl, hP1, by omega, by decide, by decide, fun d k1 r1 H2 a0 a1 ak B2 Q2 => ?_⟩
    obtain ⟨j, rfl⟩ : ∃ j : Nat, d = (j : Int) := ⟨d.toNat, by omega⟩
    obtain ⟨v, ro, hv, O1⟩ := odd_at hP1 ap (show j < 9 by omega)
    refine ⟨z, _, _, v, rfl, rfl, SqL.of (B2 z _ nz hz), atI_nat hv, ?_⟩
    refine ⟨_, rfl, p, l, ns, k1, r1, rfl, Q2, by omega, fun v2 k2 r2 H3 bk B3 Q3 ⟨good, eg, bg⟩ => ?_⟩
    subst eg
    refine ⟨(by show 2 ≤ sizeLine; decide), fun t ht => ?_⟩
    refine ⟨t, _, rfl, SqT.of upd_same, rfl, _, _, rfl, _, _, rfl, rfl, ?_⟩
    have Q4 : PenAt (upd H3 t (.tup [v, .int good])) p l ns k2 r2 := Q3.new ht
    have O4 : Odd C p (upd H3 t (.tup [v, .int good])) v ro := O1.keep (((Kp.but B2).tr (Kp.but B3)).tr (Kp.grow (grow_new ht)))
    have K4 : Kp p H (upd H3 t (.tup [v, .int good])) := (((Kp.grow g1).tr (Kp.but B2)).tr (Kp.but B3)).tr (Kp.grow (grow_new ht))
    have T4 : LamX.Tabs (tabs P1 P2) (upd H3 t (.tup [v, .int good])) := (tabs_but (tabs_but (hT.ext g1) hP1 B2) Q2 B3).ext (grow_new ht)
    show tSeq _ _ _ [some (V.ref p), some (V.ref z), none, some (V.int good), some v] (upd H3 t (.tup [v, .int good]))
    generalize upd H3 t (.tup [v, .int good]) = H4 at Q4 O4 K4 T4 ⊢
    have noInt := O4.noInt
    refine sq_lst1 (lam_bad (vs := [v]) (x := v) (y := .int 1) T4 (fun H1 Q q => ⟨v, rfl, q⟩) rfl (fun H5 e5 => (O4.keep (Kp.ext e5)).ki T) (fun _ _ => ki_int 1) (fun u d e _ => absurd e (noInt u)) fun H5 e5 T5 => ⟨(by decide), fun y hy => ?_⟩)
    have FR : ∀ b u, b ≠ p → (∀ ps, u ≠ HO.tbl ps) → H4 b = some u → b ≠ y := fun b u n m e q => by
      have h := Kp.ext e5 b u n m e
      rw [q, hy] at h
      cases h
    have nyp : y ≠ p := fun e => by
      rw [e, (Q4.ext e5).pen] at hy
      cases hy
    have nyl : y ≠ l := fun e => by
      rw [e, (Q4.ext e5).lst] at hy
      cases hy
    have Q5 : PenAt (upd H5 y (.lst [.str "ratio"])) p l ns k2 r2 := (Q4.ext e5).new hy
    have K5 : Kp p H4 (upd H5 y (.lst [.str "ratio"])) := (Kp.ext e5).tr (Kp.grow (grow_new hy))
    have S5 : LamX.Tabs (tabs P1 P2) (upd H5 y (.lst [.str "ratio"])) := T5.ext (grow_new hy)
    have L5 : upd H5 y (.lst [.str "ratio"]) y = some (.lst [.str "ratio"]) := upd_same
    show tSeq _ _ _ [some (V.ref p), some (V.ref z), some (V.ref y), some (V.int good), some v] (upd H5 y (.lst [.str "ratio"]))
    generalize upd H5 y (.lst [.str "ratio"]) = J5 at Q5 K5 S5 L5 ⊢
    refine sq_app rfl L5 (lam_bad (vs := [.int good, v]) (x := .int good) (y := v) S5 (fun H1 Q q => ⟨_, rfl, _, rfl, q⟩) rfl (fun _ _ => ki_int good) (fun H6 e6 => (O4.keep (K5.tr (Kp.ext e6))).ki T) (fun u d _ e => absurd e (noInt d)) fun H6 e6 T6 =>
      ⟨y, [.str "ratio"], .str "ratio", rfl, rfl, e6 _ _ L5 (fun _ z => nomatch z), (by show 1 < sizeLine; decide), ?_⟩)
    have L6 : upd H6 y (.lst ([.str "ratio"] ++ [.str "ratio"])) y = some (.lst [.str "ratio", .str "ratio"]) := upd_same
    have Q6 : PenAt (upd H6 y (.lst ([.str "ratio"] ++ [.str "ratio"]))) p l ns k2 r2 := (Q5.ext e6).upd nyp nyl
    have K6 : Kp p H4 (upd H6 y (.lst ([.str "ratio"] ++ [.str "ratio"]))) := kp_upd FR K5 (Kp.ext e6)
    have S6 : LamX.Tabs (tabs P1 P2) (upd H6 y (.lst ([.str "ratio"] ++ [.str "ratio"]))) := tabs_lst T6 (e6 _ _ L5 (fun _ z => nomatch z))
    generalize upd H6 y (.lst ([.str "ratio"] ++ [.str "ratio"])) = J6 at Q6 K6 S6 L6 ⊢
    refine sq_app rfl L6 (lam_bad (vs := [.int good, .int 0]) (x := .int good) (y := .int 0) S6 (fun H1 Q q => ⟨_, rfl, q⟩) rfl (fun _ _ => ki_int good) (fun _ _ => ki_int 0) (fun u d _ e => by cases e; rfl) fun H7 e7 T7 =>
      ⟨y, [.str "ratio", .str "ratio"], .str "ratio", rfl, rfl, e7 _ _ L6 (fun _ z => nomatch z), (by show 2 < sizeLine; decide), ?_⟩)
    have L7 : upd H7 y (.lst ([.str "ratio", .str "ratio"] ++ [.str "ratio"])) y = some (.lst [.str "ratio", .str "ratio", .str "ratio"]) := upd_same
    have Q7 : PenAt (upd H7 y (.lst ([.str "ratio", .str "ratio"] ++ [.str "ratio"]))) p l ns k2 r2 := (Q6.ext e7).upd nyp nyl
    have K7 : Kp p H4 (upd H7 y (.lst ([.str "ratio", .str "ratio"] ++ [.str "ratio"]))) := kp_upd FR K6 (Kp.ext e7)
    have S7 : LamX.Tabs (tabs P1 P2) (upd H7 y (.lst ([.str "ratio", .str "ratio"] ++ [.str "ratio"]))) := tabs_lst T7 (e7 _ _ L6 (fun _ z => nomatch z))
    generalize upd H7 y (.lst ([.str "ratio", .str "ratio"] ++ [.str "ratio"])) = J7 at Q7 K7 S7 L7 ⊢
    refine sq_app rfl L7 (lam_badK (zs := [.int good, v]) (x := v) (y := .int good) S7 (fun H1 Q q => ⟨_, rfl, _, rfl, q⟩) rfl (fun _ => rfl) (fun H8 e8 => (O4.keep (K7.tr (Kp.ext e8))).ki T) (fun _ _ => ki_int good) (fun u d e _ => absurd e (noInt u)) fun H8 e8 T8 =>
      ⟨y, [.str "ratio", .str "ratio", .str "ratio"], .str "ratio", rfl, rfl, e8 _ _ L7 (fun _ z => nomatch z), (by show 3 < sizeLine; decide), ?_⟩)
    have L8 : upd H8 y (.lst ([.str "ratio", .str "ratio", .str "ratio"] ++ [.str "ratio"])) y = some (.lst [.str "ratio", .str "ratio", .str "ratio", .str "ratio"]) := upd_same
    have Q8 : PenAt (upd H8 y (.lst ([.str "ratio", .str "ratio", .str "ratio"] ++ [.str "ratio"]))) p l ns k2 r2 := (Q7.ext e8).upd nyp nyl
    have K8 : Kp p H4 (upd H8 y (.lst ([.str "ratio", .str "ratio", .str "ratio"] ++ [.str "ratio"]))) := kp_upd FR K7 (Kp.ext e8)
    have S8 : LamX.Tabs (tabs P1 P2) (upd H8 y (.lst ([.str "ratio", .str "ratio", .str "ratio"] ++ [.str "ratio"]))) := tabs_lst T8 (e8 _ _ L7 (fun _ z => nomatch z))
    generalize upd H8 y (.lst ([.str "ratio", .str "ratio", .str "ratio"] ++ [.str "ratio"])) = J8 at Q8 K8 S8 L8 ⊢
    refine sq_no (ne_data (xs := [.str "ratio", .str "ratio", .str "ratio", .str "ratio"]) (ds := [.str "ratio", .str "ratio", .str "ratio", .str "ratio"]) (fun H => .cons (.str _) (.cons (.str _) (.cons (.str _) (.cons (.str _) .nil)))) (by decide +kernel)
      (evp_var rfl ⟨y, _, rfl, L8, rfl, rfl, rfl, rfl, trivial⟩ (stb_lst ⟨stb_is, stb_is, stb_is, stb_is, trivial⟩)) (evp_rep (Ps := [IsP (.str "ratio")]) (by decide) (by decide) (Nat.le_of_ble_eq_true rfl) (evp_lst (Nat.le_of_ble_eq_true rfl) (EvPs.cons stb_is evp_c EvPs.nil) ⟨stb_is, trivial⟩) ⟨stb_is, trivial⟩)) fun H9 g9 => ?_
    have K9 := K8.tr (Kp.grow g9)
    refine sq_ne2 (lam_of (r := ro) (x := v) (S8.ext g9) (fun H1 Q q => ⟨_, rfl, q⟩) (fun H10 e10 => (O4.keep (K9.tr (Kp.ext e10))).ki T) (fun H10 e10 => (O4.keep (K9.tr (Kp.ext e10))).kr T) noInt fun H10 e10 T10 => ?_)
    have K10 := K9.tr (Kp.ext (p := p) e10)
    obtain ⟨ty, tx, kr⟩ := (O4.keep K10).kr T
    have isi : Ans (tB (tCB (rIsi K) (tCons (tVar 4) (tCons (tC (.ref C)) tNil)))) [some (V.ref p), some (V.ref z), some (V.ref y), some (V.int good), some v] H10 ro := ans_val (val_isi (val_var rfl) tx kr (.own C))
    have fin : ∀ D' : Ends, D'.rt = Q → tRet (tAndV (tCall (spIs C) [] E0 (tCons (ClX.tCMeth C (fun vs H Q E => spOf K C CI (vs ++ []) H Q E) E0 (tC (.ref C)) (tCons (tVar 3) tNil)) (tCons (tVar 3) (tCons (tC (.int 1)) tNil))))
        (tCall (spIs C) [] E0 (tCons (tCMethK C (spOf K C CI) E0 g11 (tC (.ref C)) (tCons (tMake C (spInit K C CI) [] E0 (tCons (tVar 3) (tCons (tC (.int 7)) tNil))) tNil)) (tCons (tVar 3) (tCons (tC (.int 7)) tNil))))) D' [some (V.ref p), some (V.ref z), some (V.ref y), some (V.int good), some v] H10 := fun D' hD => by
      have bg4 : good.natAbs < 2 ^ 4000 := Nat.lt_of_le_of_lt bg (by decide)
      refine st_retP (evp_and (evp_is (evp_of T (evp_val fun H' => val_var rfl) bg4) (evp_val fun H' => val_var rfl) evp_c ⟨rfl, rfl⟩ (by decide) (lt19 bg) (by decide))
        (evp_is (evp_ofK T (evp_mk (evp_val fun H' => val_var rfl) evp_c (by decide) bg4 (by decide))) (evp_val fun H' => val_var rfl) evp_c ⟨rfl, rfl⟩ (by decide) (lt19 bg) (by decide))) fun v11 H11 g11' e11 => ?_
      rw [hD, show v11 = _ from e11]
      exact q k2 r2 H11 (by omega) (K4.tr (K10.tr (Kp.grow g11'))) (((Q8.grow g9).ext e10).grow g11') (T10.ext g11')
    cases ro with
    | true => exact isi _ (iteT ⟨rfl, by rw [show decide (V.str (if true = true then (PySem.Str.ofString "") else PySem.Str.ofString "ratio") = V.str (PySem.Str.ofString "")) = true from decide_eq_true rfl]; exact ⟨_, rfl, iteF (fin _ rfl)⟩⟩)
    | false => exact isi _ (iteF ⟨rfl, by rw [show decide (V.str (if false = true then (PySem.Str.ofString "") else PySem.Str.ofString "ratio") = V.str (PySem.Str.ofString "ratio")) = true from decide_eq_true rfl]; exact ⟨_, rfl, iteF (fin _ rfl)⟩⟩)
end
end B2
set_option maxRecDepth 100000
set_option maxHeartbeats 2000000
set_option exponentiation.threshold 10000
namespace B2
open PySem PySem.Spec PyProof.Rows L2 RX LP XO
abbrev sLaw : Stmt := top 22
abbrev nsLaw : List Str := ["_law_script", "_law_pen_here", "_law_turn", "_law_here", "_law_there", "_law_one", "_law_two", "_law_up", "_law_down"]
theorem scLaw : FnScope nsLaw ["_law_script"] (defScope sLaw) := ⟨rfl, rfl, rfl, by decide +kernel, rfl, by decide +kernel, by decide +kernel⟩
def spLaw (K : PySem.W.Frag) (T : List (Addr × Str)) : Sp := fun vs H Q _ => ∃ (a : Addr) (ns : List Int), vs = [.ref a] ∧ SqL K H a (ns.map V.int) ∧ ns.length ≤ 63 ∧ LamX.Tabs T H ∧ ∀ H', Q (.bl true) H'
section
variable {K : PySem.W.Frag} {mg : Str → Option Value} {C CI CQ : Addr} {σ : L2.St} {H : Hp} {te ta tb t1e : TE} {tl : TA} {P R : PV} {u : TS} {D : Ends} {i j : Nat} {x : V} {a : Addr} {xs : List V} {n t1 b1 : Int} {E : XK} {c : TT}
theorem evp_ixT {k : Int} (h : σ[i]? = some (some (.ref a))) (e : H a = some (.tup xs)) (hx : atI xs k = some x) : EvP (tOp (rIxT K) (tVar i) (tC (.int k))) σ H (IsP x) := fun H1 g Q q => ⟨_, h, a, xs, _, x, rfl, rfl, SqT.of (g _ _ e), hx, q x H1 grow_rfl rfl⟩
theorem sq_parP (h : EvPs tl σ H [P, R]) (q : ∀ v w H', Grow H H' → P v H' → R w H' → u D ((σ.set i (some v)).set j (some w)) H') : tSeq (tPar i j tl) u D σ H := h H grow_rfl _ fun vs H1 g p => by
  match vs, p with
  | [v, w], ⟨pv, pw, _⟩ => exact ⟨v, w, rfl, q v w H1 g pv pw⟩
theorem evb_eqO (T : RTx K mg C CI CQ) {ty : Value} (nf : PySem.W.notFirst K C ty = true) (kt : PySem.W.kitOne K ty (.ref C) = some false) (h1 : EvP t1e σ H (RatP C t1 b1)) (h2 : EvP te σ H P) (hp : ∀ v H', P v H' → TyOf K H' v ty) :
    EvB (tTest (tOp (rEqO K C (spEq K C) E) t1e te)) σ H false := fun H1 g0 Q q => h1 H1 g0 _ fun x H2 g2 p1 => h2 H2 (g0.tr g2) _ fun y H3 g3 p2 => by
  obtain ⟨a, dx, rfl, ea⟩ := p1
  have ty' := hp y H3 p2
  exact ⟨a, dx, _, ty, rfl, g3 _ _ ea, ty', nf, a, dx, _, _, y, false, rfl, g3 _ _ ea, ⟨ty, .base ty', kt⟩, fun _ => ⟨false, rfl, q H3 (g2.tr g3)⟩, fun z => Bool.noConfusion z⟩
theorem evp_bool (h1 : EvP t1e σ H (RatP C t1 b1)) : EvP (tCB (rBoolO C (spBool C) E) (tCons t1e tNil)) σ H (IsP (.bl (t1 != 0))) := fun H1 g0 Q q => h1 H1 g0 _ fun x H2 g2 p1 => by
  obtain ⟨a, dx, rfl, ea⟩ := p1
  exact ⟨a, dx, _, rfl, ea, a, dx, _, _, rfl, ea, _, rfl, q _ _ g2 rfl⟩
theorem evp_ne0 (h : EvP te σ H (IsP (.int n))) : EvP (tOp rNe te (tC (.int 0))) σ H (IsP (.bl (!decide (n = 0)))) := fun H1 g Q q => h H1 g _ fun x H2 g2 e => by
  cases (show x = .int n from e)
  refine ⟨rfl, ?_⟩
  rw [dec_int]
  exact q _ _ g2 rfl
theorem evp_top (T : RTx K mg C CI CQ) (h1 : EvP t1e σ H (RatP C t1 b1)) : EvP (tFld K t1e "top") σ H (IsP (.int t1)) := fun H1 g0 Q q => h1 H1 g0 _ fun x H2 g2 p1 => by
  obtain ⟨a, dx, rfl, ea⟩ := p1
  exact ⟨a, C, dx, _, _, rfl, ea, T.cl, T.nT, flds_top, q _ _ g2 rfl⟩
theorem evp_bot (T : RTx K mg C CI CQ) (h1 : EvP t1e σ H (RatP C t1 b1)) : EvP (tFld K t1e "bottom") σ H (IsP (.int b1)) := fun H1 g0 Q q => h1 H1 g0 _ fun x H2 g2 p1 => by
  obtain ⟨a, dx, rfl, ea⟩ := p1
  exact ⟨a, C, dx, _, _, rfl, ea, T.cl, T.nB, flds_bot, q _ _ g2 rfl⟩
theorem sh_bool : ∀ b : Bool, shB (.bool b) = true := by decide +kernel
theorem tabs_kp {T : List (Addr × Str)} {H H' : Hp} (t : LamX.Tabs T H) (g : Grow H H') : LamX.Tabs T H' := t.ext g
end
section
variable {P : Program} {w : World} {K : PySem.W.Frag} {mg : Str → Option Value} {base : Heap} {C CI CQ CF : Addr}
theorem ok_law {f P1 P2 fIs fD fN fP fF fW fO fE : Addr} {fd fdIs fdD fdN fdP fdF fdW fdO fdE : FuncData} (F : Fun K "law" "law" sLaw f fd) (T : RTx K mg C CI CQ) (B : Bl mg) (R : RR P w K mg base C CI CQ)
    (GIs : FnG P w K mg base 3 fIs fdIs ["_law_found", "_law_up", "_law_down"] (spIs C)) (DIs : At K mg "_law_is" fIs fdIs ["_law_found", "_law_up", "_law_down"])
    (GE : FnOk P w K mg base CX0 1 fE fdE ["_law_script"] (spPen K)) (DE : At K mg "_law_pen" fE fdE ["_law_script"])
    (GP : FnOk P w K mg base CX0 3 fP fdP ["_law_pen_here"] spPair) (DP : At K mg "_law_pair" fP fdP ["_law_pen_here"])
    (GF : FnOk P w K mg base CX0 2 fF fdF ["_law_pen_here"] spFar) (DF : At K mg "_law_far" fF fdF ["_law_pen_here"])
    (GW : FnG P w K mg base 8 fW fdW psTwo (spTwo C (tabs P1 P2))) (DW : At K mg "_law_two_right" fW fdW psTwo)
    (GO : FnG P w K mg base 8 fO fdO ["_law_pen_here"] (spOdd (tabs P1 P2))) (DO : At K mg "_law_odd_right" fO fdO ["_law_pen_here"]) : FnG P w K mg base 9 f fd ["_law_script"] (spLaw K (tabs P1 P2)) := by
  refine fnG_of F scLaw (fun vs H Q E h => ?_) (fun cdv A outer s H vs Q E hr hg h => ?_)
  · obtain ⟨a, ns, rfl, _⟩ := h
    rfl
  · obtain ⟨a, ns, rfl, hS, hl, hT, q⟩ := h
    obtain ⟨fI, fdI, R1, kb⟩ := R.mkr
    obtain ⟨ds, hd, b1⟩ := R1.b1
    obtain ⟨fq, dq, Gq, Oq, bq⟩ := R.eq
    obtain ⟨fb, db, Gb, Ob, bb⟩ := R.boo
    have nd := scLaw.nd
    have hu : (A.deeper (envOfC (PySem.Str.ofString "law") (defScope sLaw) s.heap.objs.size f cdv)).units + 65 < cLine := by
      have := hr.un
      omega
    refine ⟨_, pss_cons (ps_set (i := 1) nd rfl (Or.inl rfl) (pe_call GE (hr.mono (by decide)) (by rfl) DE.mg DE.kp DE.b .nil pass0 (pa_cons (pv 0) pa_nil)))
      (pss_cons (ps_for PassesOwn.never rfl (pi_range1 (by rfl) B.range (pa_cons pe_int pa_nil)) (pg_name (i := 2) nd rfl (Or.inl rfl))
        (pss_cons (ps_par (i := 3) (j := 4) (by rfl) nd rfl rfl (by decide) rfl rfl (pa_cons (pe_call GP (hr.mono (by decide)) (by rfl) DP.mg DP.kp DP.b .nil pass0 (pa_cons (pv 1) pa_nil)) (pa_cons (pe_call GP (hr.mono (by decide)) (by rfl) DP.mg DP.kp DP.b .nil pass0 (pa_cons (pv 1) pa_nil)) pa_nil)) (by rfl))
        (pss_cons (ps_par (i := 5) (j := 6) (by rfl) nd rfl rfl (by decide) rfl rfl (pa_cons (pe_make (E := E0) R1.mkc R1.ok (hr.mono (by decide)) (by rfl) T.gR R1.b2 .nil passL (pa_cons (pe_ix (r := rIxT K) ix_tup (pv 3) pe_int (fun _ _ => rfl)) (pa_cons (pe_ix (r := rIxT K) ix_tup (pv 3) pe_int (fun _ _ => rfl)) pa_nil)))
            (pa_cons (pe_makeK0 (E := E0) R1.mkc R1.ok (hr.mono (by decide)) (by rfl) T.gR kb passL (pk_cons (pe_ix (r := rIxT K) ix_tup (pv 4) pe_int (fun _ _ => rfl)) (pk_cons (pe_ix (r := rIxT K) ix_tup (pv 4) pe_int (fun _ _ => rfl)) pk_nil))) pa_nil)) (by rfl))
        (pss_cons (ps_if (PW.pt (pw_or (pt_not (pt_val (pe_callG GIs (hr.mono (by decide)) hg (by rfl) DIs.mg DIs.kp DIs.b (pa_cons (pv 5) (pa_cons (pe_ix (r := rIxT K) ix_tup (pv 3) pe_int (fun _ _ => rfl)) (pa_cons (pe_ix (r := rIxT K) ix_tup (pv 3) pe_int (fun _ _ => rfl)) pa_nil))))))
            (pw_or1 (pt_not (pt_val (pe_callG GIs (hr.mono (by decide)) hg (by rfl) DIs.mg DIs.kp DIs.b (pa_cons (pv 6) (pa_cons (pe_ix (r := rIxT K) ix_tup (pv 4) pe_int (fun _ _ => rfl)) (pa_cons (pe_ix (r := rIxT K) ix_tup (pv 4) pe_int (fun _ _ => rfl)) pa_nil))))))))) (pss_one (ps_ret pe_bl)) pss_nil)
        (pss_cons (ps_if (PW.pt (pw_or (pt_cmpR op_ne (pe_callB (call_repr hg hu) (by rfl) B.repr (by decide +kernel) (pa_cons (pe_callTy (call_boolO (E := E0) Gb Ob (hr.mono (by decide)) bb pass0) (by rfl) B.bool (by decide +kernel) (pa_cons (pv 5) pa_nil)) pa_nil))
              (pe_callB (call_repr hg hu) (by rfl) B.repr (by decide +kernel) (pa_cons (pe_cmpR op_ne (pe_ix (r := rIxT K) ix_tup (pv 3) pe_int (fun _ _ => rfl)) pe_int (nomark _)) pa_nil)) (nomark _))
            (pw_or (pt_cmpR (op_eqO (E := E0) Gq Oq (hr.mono (by decide)) bq pass0) (pv 5) (pe_ix (r := rIxT K) ix_tup (pv 3) pe_int (fun _ _ => rfl)) (nomark _))
            (pw_or1 (pt_cmpR (op_eqO (E := E0) Gq Oq (hr.mono (by decide)) bq pass0) (pv 5) (pe_tup (pa_cons (pe_fld (pv 5) rfl) (pa_cons (pe_fld (pv 5) rfl) pa_nil))) (nomark _)))))) (pss_one (ps_ret pe_bl)) pss_nil)
        (pss_cons (ps_if (PW.pt (pw_or (pt_not (pt_val (pe_callG GW hr hg (by rfl) DW.mg DW.kp DW.b (pa_cons (pv 5) (pa_cons (pv 6) (pa_cons (pv 3) (pa_cons (pv 4) pa_nil)))))))
            (pw_or1 (pt_not (pt_val (pe_callG GW hr hg (by rfl) DW.mg DW.kp DW.b (pa_cons (pv 6) (pa_cons (pv 5) (pa_cons (pv 4) (pa_cons (pv 3) pa_nil)))))))))) (pss_one (ps_ret pe_bl)) pss_nil)
        (pss_cons (ps_if (PW.pt (pw_or (pt_not (pt_val (pe_callG GW hr hg (by rfl) DW.mg DW.kp DW.b (pa_cons (pv 5) (pa_cons (pv 5) (pa_cons (pv 3) (pa_cons (pv 3) pa_nil)))))))
            (pw_or1 (pt_not (pt_val (pe_callG GO hr hg (by rfl) DO.mg DO.kp DO.b (pa_cons (pv 1) pa_nil))))))) (pss_one (ps_ret pe_bl)) pss_nil)
        (pss_cons (ps_if (PW.pt (pw_or (pt_not (pt_val (pe_callG GIs (hr.mono (by decide)) hg (by rfl) DIs.mg DIs.kp DIs.b (pa_cons (pv 5) (pa_cons (pe_ix (r := rIxT K) ix_tup (pv 3) pe_int (fun _ _ => rfl)) (pa_cons (pe_ix (r := rIxT K) ix_tup (pv 3) pe_int (fun _ _ => rfl)) pa_nil))))))
            (pw_or1 (pt_not (pt_val (pe_callG GIs (hr.mono (by decide)) hg (by rfl) DIs.mg DIs.kp DIs.b (pa_cons (pe_make (E := E0) R1.mkc R1.ok (hr.mono (by decide)) (by rfl) T.gR b1 hd passL (pa_cons (pe_ix (r := rIxT K) ix_tup (pv 3) pe_int (fun _ _ => rfl)) pa_nil)) (pa_cons (pe_ix (r := rIxT K) ix_tup (pv 3) pe_int (fun _ _ => rfl)) (pa_cons pe_int pa_nil))))))))) (pss_one (ps_ret pe_bl)) pss_nil)
        (pss_cons (ps_par (i := 7) (j := 8) (by rfl) nd rfl rfl (by decide) rfl rfl (pa_cons (pe_call GF (hr.mono (by decide)) (by rfl) DF.mg DF.kp DF.b .nil pass0 (pa_cons (pv 1) pa_nil)) (pa_cons (pe_call GF (hr.mono (by decide)) (by rfl) DF.mg DF.kp DF.b .nil pass0 (pa_cons (pv 1) pa_nil)) pa_nil)) (by rfl))
        (pss_one (ps_if (PW.pt (pw_or (pt_not (pt_val (pe_callG GIs (hr.mono (by decide)) hg (by rfl) DIs.mg DIs.kp DIs.b (pa_cons (pe_make (E := E0) R1.mkc R1.ok (hr.mono (by decide)) (by rfl) T.gR R1.b2 .nil passL (pa_cons (pv 7) (pa_cons (pv 8) pa_nil))) (pa_cons (pv 7) (pa_cons (pv 8) pa_nil))))))
            (pw_or1 (pt_not (pt_val (pe_callG GIs (hr.mono (by decide)) hg (by rfl) DIs.mg DIs.kp DIs.b (pa_cons (pe_make (E := E0) R1.mkc R1.ok (hr.mono (by decide)) (by rfl) T.gR R1.b2 .nil passL (pa_cons pe_int (pa_cons (pv 8) pa_nil))) (pa_cons pe_int (pa_cons pe_int pa_nil))))))))) (pss_one (ps_ret pe_bl)) pss_nil)))))))))))
      (pss_one (ps_ret pe_bl))), ?_⟩
    show tSeq _ _ _ [some (V.ref a), none, none, none, none, none, none, none, none] H
    refine ⟨_, rfl, a, ns, rfl, hS, hl, fun p l H1 hp0 ke P1' => ?_⟩
    have T1 : LamX.Tabs (tabs P1 P2) H1 := hT.ext ke
    show tSeq _ _ _ [some (V.ref a), some (V.ref p), none, none, none, none, none, none, none] H1
    refine sq_for (n := 6) (fun i σ H' => ∃ (x2 x3 x4 x5 x6 x7 x8 : Option V) (k r : Int), σ = [some (V.ref a), some (V.ref p), x2, x3, x4, x5, x6, x7, x8] ∧ PenAt H' p l ns k r ∧ k ≤ 30 * (i : Int) ∧ LamX.Tabs (tabs P1 P2) H')
      (EvPs.cons stb_is evp_c EvPs.nil) (by decide) (fun H' g => ⟨_, _, _, _, _, _, _, 0, 0, rfl, P1'.grow g, by decide, T1.ext g⟩) ?_ ?_
    · rintro i σ H2 hi ⟨x2, x3, x4, x5, x6, x7, x8, k, r, rfl, Q2, hk, T2⟩ D' hD
      have hi' : (i : Int) < 6 := by omega
      show tSeq _ _ _ [some (V.ref a), some (V.ref p), some (V.int (i : Int)), x3, x4, x5, x6, x7, x8] H2
      refine sq_par ?_
      refine ⟨_, rfl, p, l, ns, k, r, rfl, Q2, by omega, fun vh k1 r1 H3 hk1 B3 Q3 ⟨h, u1, d1, eh, hh3, n1, bu1, bd1⟩ => ?_⟩
      subst eh
      refine ⟨_, rfl, p, l, ns, k1, r1, rfl, Q3, by omega, fun vt k2 r2 H4 hk2 B4 Q4 ⟨t, u2, d2, et, ht4, n2, bu2, bd2⟩ => ?_⟩
      subst et
      have nhp : h ≠ p := fun e => by
        rw [e, Q3.pen] at hh3
        cases hh3
      have hh4 := B4 h _ nhp hh3
      have T4 := tabs_but (tabs_but T2 Q2 B3) Q3 B4
      have N1 : Nm u1 d1 := ⟨n1, bu1, bd1⟩
      have N2 : Nm u2 d2 := ⟨n2, bu2, bd2⟩
      have c4 : ∀ {i : Int}, i.natAbs ≤ 1000000 → i.natAbs < 2 ^ 4000 := fun z => Nat.lt_of_le_of_lt z (by decide)
      refine ⟨_, _, rfl, ?_⟩
      show tSeq _ _ _ [some (V.ref a), some (V.ref p), some (V.int (i : Int)), some (V.ref h), some (V.ref t), x5, x6, x7, x8] H4
      refine sq_parP (EvPs.cons stb_rat (evp_mk (evp_ixT rfl hh4 rfl) (evp_ixT rfl hh4 rfl) n1 (c4 bu1) (c4 (by omega))) (EvPs.cons stb_rat (evp_mkK (evp_ixT rfl ht4 rfl) (evp_ixT rfl ht4 rfl) n2 (c4 bu2) (c4 (by omega))) EvPs.nil)) fun one two H5 g5 p1 p2 => ?_
      show tSeq _ _ _ [some (V.ref a), some (V.ref p), some (V.int (i : Int)), some (V.ref h), some (V.ref t), some one, some two, x7, x8] H5
      have hh5 := g5 _ _ hh4
      have ht5 := g5 _ _ ht4
      have b19 : ∀ {i : Int}, i.natAbs ≤ 1000000 → i.natAbs < 2 ^ 1900 := fun z => Nat.lt_of_le_of_lt z (by decide)
      refine sq_no (evb_or (evb_no (evp_is (evp_var rfl p1 stb_rat) (evp_ixT rfl hh5 rfl) (evp_ixT rfl hh5 rfl) ⟨rfl, rfl⟩ n1 (b19 bu1) (b19 (by omega)))) (evb_no (evp_is (evp_var rfl p2 stb_rat) (evp_ixT rfl ht5 rfl) (evp_ixT rfl ht5 rfl) ⟨rfl, rfl⟩ n2 (b19 bu2) (b19 (by omega))))) fun H6 g6 => ?_
      have p16 := stb_rat _ _ _ g6 p1
      have hh6 := g6 _ _ hh5
      have eb : (tp u1 d1 != 0) = (!decide (u1 = 0)) := by
        by_cases z : u1 = 0
        · rw [(tp_zero n1).mpr z, z]
          rfl
        · rw [decide_eq_false z]
          exact bne_iff_ne.mpr fun e => z ((tp_zero n1).mp e)
      refine sq_no (evb_or (ne_repr (sh_of (sh_bool (!decide (u1 = 0)))) (EvP.imp (fun v H e => by rw [show v = _ from e, eb]; exact .bl _) (evp_bool (evp_var rfl p16 stb_rat))) (EvP.imp (fun v H e => by rw [show v = _ from e]; exact .bl _) (evp_ne0 (evp_ixT rfl hh6 rfl))))
        (evb_or (evb_eqO T R.nfI (T.kOf "int" (by simp)) (evp_var rfl p16 stb_rat) (evp_ixT (x := V.int u1) rfl hh6 rfl) fun v H' e => by rw [show v = _ from e]; exact .int _)
          (evb_eqO T R.nfT (T.kOf "tuple" (by simp)) (evp_var rfl p16 stb_rat) (evp_tup (Nat.le_of_ble_eq_true rfl) (EvPs.cons stb_is (evp_top T (evp_var rfl p16 stb_rat)) (EvPs.cons stb_is (evp_bot T (evp_var rfl p16 stb_rat)) EvPs.nil)) ⟨stb_is, stb_is, trivial⟩) fun v H' ⟨z, ys, e, hz, _⟩ => by rw [e]; exact .tup hz))) fun H7 g7 => ?_
      have G7 := (g5.tr g6).tr g7
      have p17 := stb_rat _ _ _ (g6.tr g7) p1
      have p27 := stb_rat _ _ _ (g6.tr g7) p2
      have hh7 := (g6.tr g7) _ _ hh5
      have ht7 := (g6.tr g7) _ _ ht5
      have Q7 := Q4.grow G7
      have T7 := T4.ext G7
      have stE : ∀ {H H' : Hp} {v : V} {t b : Int}, LamX.ExtN H H' → RatP C t b v H → RatP C t b v H' := fun e ⟨z, dx, ev, hz⟩ => ⟨z, dx, ev, e _ _ hz (fun _ y => nomatch y)⟩
      have tuE : ∀ {H H' : Hp} {z : Addr} {ys : List V}, LamX.ExtN H H' → H z = some (.tup ys) → H' z = some (.tup ys) := fun e hz => e _ _ hz (fun _ y => nomatch y)
      refine ⟨_, rfl, _, rfl, _, rfl, _, rfl, one, two, h, t, u1, d1, u2, d2, rfl, p17, p27, hh7, ht7, N1, N2, T7, fun H8 e8 T8 => ⟨true, rfl, ?_⟩⟩
      refine iteF ⟨_, rfl, _, rfl, _, rfl, _, rfl, two, one, t, h, u2, d2, u1, d1, rfl, stE e8 p27, stE e8 p17, tuE e8 ht7, tuE e8 hh7, N2, N1, T8, fun H9 e9 T9 => ⟨true, rfl, iteF ?_⟩⟩
      have E9 := e8.trans e9
      show tSeq _ _ _ [some (V.ref a), some (V.ref p), some (V.int (i : Int)), some (V.ref h), some (V.ref t), some one, some two, x7, x8] H9
      refine ⟨_, rfl, _, rfl, _, rfl, _, rfl, one, one, h, h, u1, d1, u1, d1, rfl, stE E9 p17, stE E9 p17, tuE E9 hh7, tuE E9 hh7, N1, N1, T9, fun H10 e10 T10 => ⟨true, rfl, ?_⟩⟩
      have E10 := E9.trans e10
      refine iteF ⟨_, rfl, p, l, ns, k2, r2, rfl, Q7.ext E10, by omega, T10, fun k3 r3 H11 hk3 K11 Q11 T11 => ⟨true, rfl, iteF ?_⟩⟩
      have KK := (Kp.ext (p := p) E10).tr K11
      obtain ⟨a1, dx1, e1, ea1⟩ := id p17
      have na1 : a1 ≠ p := fun e => by
        rw [e, Q7.pen] at ea1
        cases ea1
      have p111 : RatP C (tp u1 d1) (bt u1 d1) one H11 := ⟨a1, dx1, e1, KK _ _ na1 (fun _ y => nomatch y) ea1⟩
      have hh11 := KK h (.tup [.int u1, .int d1]) nhp (fun _ y => nomatch y) hh7
      show tSeq _ _ _ [some (V.ref a), some (V.ref p), some (V.int (i : Int)), some (V.ref h), some (V.ref t), some one, some two, x7, x8] H11
      refine sq_no (evb_or (evb_no (evp_is (evp_var rfl p111 stb_rat) (evp_ixT rfl hh11 rfl) (evp_ixT rfl hh11 rfl) ⟨rfl, rfl⟩ n1 (b19 bu1) (b19 (by omega)))) (evb_no (evp_is (evp_mk1 (evp_ixT rfl hh11 rfl) (c4 bu1)) (evp_ixT rfl hh11 rfl) evp_c ⟨rfl, rfl⟩ (by decide) (b19 bu1) (by decide)))) fun H12 g12 => ?_
      refine sq_par ?_
      refine ⟨_, rfl, p, l, ns, k3, r3, rfl, Q11.grow g12, by omega, fun vu k4 r4 H13 hk4 B13 Q13 ⟨u, eu, u0, bu⟩ => ?_⟩
      subst eu
      refine ⟨_, rfl, p, l, ns, k4, r4, rfl, Q13, by omega, fun vd k5 r5 H14 hk5 B14 Q14 ⟨d, ed, d0, bd⟩ => ?_⟩
      subst ed
      have T14 := tabs_but (tabs_but (T11.ext g12) (Q11.grow g12) B13) Q13 B14
      refine ⟨_, _, rfl, ?_⟩
      show tIfS _ _ _ _ [some (V.ref a), some (V.ref p), some (V.int (i : Int)), some (V.ref h), some (V.ref t), some one, some two, some (V.int u), some (V.int d)] H14
      have eu1 : tp 0 d = tp 0 1 ∧ bt 0 d = bt 0 1 := low_eq d0 (by decide) (by rw [Int.zero_mul, Int.zero_mul])
      refine ls_no (evb_or (evb_no (evp_is (evp_mk (evp_val fun H' => val_var rfl) (evp_val fun H' => val_var rfl) d0 (lt_grow bu (by decide)) (lt_grow bd (by decide))) (evp_val fun H' => val_var rfl) (evp_val fun H' => val_var rfl) ⟨rfl, rfl⟩ d0 (lt_grow bu (by decide)) (lt_grow bd (by decide))))
        (evb_no (evp_is (evp_mk evp_c (evp_val fun H' => val_var rfl) d0 (by decide) (lt_grow bd (by decide))) evp_c evp_c eu1 (by decide) (by decide) (by decide)))) fun H15 g15 => ?_
      exact hD _ _ ⟨_, _, _, _, _, _, _, k5, r5, rfl, Q14.grow g15, by omega, T14.ext g15⟩
    · rintro σ H' _
      exact q H'
end
end B2
set_option maxRecDepth 100000
set_option maxHeartbeats 4000000
/-! The law's call where two of its defs make lambdas: their code objects' tables are empty at the start and may grow. -/
namespace XT
open PySem PySem.Spec PyProof.Rows L2
/-- an empty table of a code object -/
abbrev tab0 : Obj := { cls := .none, data := .fields #[] }
section
variable {P : Program} {w : World} {K : PySem.W.Frag} {mg mb : Str → Option Value} {f a : Addr} {s₁ : Shared} {vs : List Value} {ns : List Int} {cs : List (Addr × Addr)} {H : Hp}
/-- what is tracked at the start: the script's list, the tables -/
structure Start (s₁ : Shared) (K : PySem.W.Frag) (cs : List (Addr × Addr)) (a : Addr) (H : Hp) : Prop where
  tb : ∀ q ∈ cs, H q.2 = some (.tbl #[])
  few : ∀ b, H b = none ∨ (∃ q ∈ cs, q.2 = b) ∨ ∃ o xs, H b = some (.frz o (.lst xs))
  one : ∀ b, H b ≠ none → b = a ∨ ∃ q ∈ cs, q.2 = b
  nk : H a ≠ none → K.lookup a = none
theorem Start.un (S : Start s₁ K cs a H) (hT : ∀ q ∈ cs, s₁.heap.get? q.2 = some tab0) (ha : s₁.heap.get? a = some { cls := .type "list", data := .seq vs.toArray }) {b : Addr} {o : Obj} (e : s₁.heap.get? b = some o) (h1 : ∀ us n, o.data ≠ .seq us n) (h2 : o.data ≠ .fields #[]) : H b = none := by
  cases q : H b with
  | none => rfl
  | some u =>
    rcases S.one b (by rw [q]; exact fun z => nomatch z) with z | ⟨p, hp, z⟩
    · subst z
      rw [ha] at e
      cases e
      exact absurd rfl (h1 _ _)
    · subst z
      rw [hT p hp] at e
      cases e
      exact absurd rfl h2
theorem law_atT (X0 : K.In s₁.heap) (G : s₁.heap.Ns mainGlobals mg) (Gb : s₁.heap.Ns builtinsNs mb) (bb : ∀ x : Str, x ≠ "__name__" → mb x = bootBuiltins x) (lim : s₁.heap.NoLimit) (g0 : s₁.gens = #[])
    (hT : ∀ q ∈ cs, s₁.heap.get? q.2 = some tab0) (nT : ∀ q ∈ cs, K.lookup q.2 = none) (hC : ∀ q ∈ cs, PySem.W.CodeHd s₁.heap q.1 q.2)
    (hb : ∃ (bm : Addr) (ob : Obj), mg "__builtins__" = some (.ref bm) ∧ bm ≠ builtinsNs ∧ s₁.heap.get? bm = some ob ∧ ob.cls = .type "module" ∧ ob.dict = some builtinsNs ∧ ob.data = .plain)
    (ha : s₁.heap.get? a = some { cls := .type "list", data := .seq vs.toArray }) (hi : IntsAre vs ns) (hl : ns.length ≤ sizeLine)
    (F : ∀ (base : Heap) (H : Hp), (∀ q ∈ cs, LamX.TabB base mg q.1 q.2) → Env0 P w K mg base callerA [] s₁ H → (∀ q ∈ cs, H q.2 = some (.tbl #[])) → SqL K H a (ns.map V.int) →
      codeAny (model P w) callerA (.call (.ref f) ⟨[.ref a], []⟩) (CR CX0 [] P w H s₁ (fun v _ => v = .bl true) fun _ _ _ => False) s₁) :
    codeAny (model P w) callerA (.call (.ref f) ⟨[.ref a], []⟩) (fun r s' => r = .ok (.ret (.bool true)) ∧ OldK s₁.heap s'.heap ∧ s'.os = s₁.os ∧ AllBare s'.gens) s₁ := by
  have rv := vals_ints hi
  have na : ∀ q ∈ cs, q.2 ≠ a := fun q hq z => by
    have e := hT q hq
    rw [z, ha] at e
    cases e
  have go : ∀ H : Hp, Start s₁ K cs a H → SqL K H a (ns.map V.int) → HOk P w H s₁.heap →
      codeAny (model P w) callerA (.call (.ref f) ⟨[.ref a], []⟩) (fun r s' => r = .ok (.ret (.bool true)) ∧ OldK s₁.heap s'.heap ∧ s'.os = s₁.os ∧ AllBare s'.gens) s₁ := by
    intro H S sq hok
    have dict : ∀ {b : Addr} {o : Obj} {es : Array DictEntry} {ep : Nat}, s₁.heap.get? b = some o → o.data = .dict es ep → H b = none := fun e d => S.un hT ha e (fun us n z => by rw [d] at z; cases z) fun z => by rw [d] at z; cases z
    have ns' : ∀ {b : Addr} {m : Str → Option Value}, s₁.heap.Ns b m → (hidT s₁.heap H).Ns b m := fun ⟨o, es, ep, e, d, z⟩ => ⟨o, es, ep, hidT_get e (dict e d), d, z⟩
    have inK : K.In (hidT s₁.heap H) := by
      intro b o e
      refine hidT_get (X0 b o e) ?_
      cases q : H b with
      | none => rfl
      | some u =>
        rcases S.one b (by rw [q]; exact fun z => nomatch z) with z | ⟨p, hp, z⟩
        · subst z
          rw [S.nk (by rw [q]; exact fun z => nomatch z)] at e
          cases e
        · subst z
          rw [nT p hp] at e
          cases e
    have M : Mod K mg (hidT s₁.heap H) := ⟨inK, ns' G, ⟨mb, ns' Gb, bb⟩, by
      obtain ⟨mc, z1, z2⟩ := lim
      exact ⟨mc, ns' z1, z2⟩⟩
    have gT : ∀ q ∈ cs, mainGlobals ≠ q.2 := fun q hq z => by
      obtain ⟨o, es, ep, e, d, _⟩ := G
      rw [z, hT q hq] at e
      cases e
      cases d
    have TB : ∀ q ∈ cs, LamX.TabB (hidT s₁.heap H) mg q.1 q.2 := fun q hq => by
      obtain ⟨o, us, file, tf, flags, tg, inF, text, tt, e1, r1, r2, r3, rest⟩ := hC q hq
      have hid : (hidT s₁.heap H).get? q.1 = some o := hidT_get e1 (S.un hT ha e1 (fun vs n z => by rw [r2] at z; cases z) fun z => by
        rw [r2] at z
        cases z
        simp at r3)
      obtain ⟨bm, ob, b1, b2, b3, b4, b5, b6⟩ := hb
      have hbm : (hidT s₁.heap H).get? bm = some ob := hidT_get b3 (S.un hT ha b3 (fun vs n z => by rw [b6] at z; cases z) fun z => by rw [b6] at z; cases z)
      refine ⟨⟨o, us, file, tf, flags, tg, inF, text, tt, hid, r1, r2, r3, rest⟩, ⟨bm, ob, b1, b2, fun z => ?_, fun z => ?_, hbm, b4, b5, b6⟩, gT q hq⟩
      · obtain ⟨o, es, ep, e, d, _⟩ := G
        rw [z, e] at b3
        cases b3
        rw [d] at b6
        cases b6
      · rw [z, hT q hq] at b3
        cases b3
        cases b6
    have e0 : Env0 P w K mg (hidT s₁.heap H) callerA [] s₁ H := ⟨rfl, M, fun b o e => of_hidT e, Nat.le_of_eq (hidT_size _ _), trivial, fun b z => absurd (show b ∈ ([] : List Addr) from z) (by simp), hok, .of_eq g0⟩
    refine codeAny_mono (F _ H TB e0 S.tb sq) fun r s' z => ?_
    match r, z with
    | .ok (.ret u), z =>
      obtain ⟨v, H', os, bare, un, hok', ru, q⟩ := z
      cases (show v = .bl true from q)
      cases (show u = Value.bool true from ru)
      have same : ∀ b o, (∀ q ∈ cs, q.2 ≠ b) → s₁.heap.get? b = some o → s'.heap.get? b = some o := fun b o nb e => by
        rcases S.few b with h | ⟨p, hp, h⟩ | ⟨ob, xs, h⟩
        · exact un.keep b o e h (fun y => absurd (show b ∈ ([] : List Addr) from y) (by simp)) (by simp)
        · exact absurd h (nb p hp)
        · obtain ⟨e1, _⟩ := hok b _ h
          obtain ⟨e2, _⟩ := hok' b _ (un.frzs b ob _ h)
          rw [e] at e1
          cases e1
          exact e2
      have more : ∀ q ∈ cs, ∃ ps : Array Value, s'.heap.get? q.2 = some { cls := .none, data := .fields ps } := fun q hq => by
        obtain ⟨ps, h⟩ := un.tbls q.2 #[] (S.tb q hq)
        exact ⟨_, hok' q.2 _ h⟩
      refine ⟨rfl, ⟨fun b o e => ?_, fun b o e => ?_⟩, os, bare⟩
      · by_cases hb : ∃ q ∈ cs, q.2 = b
        · obtain ⟨q, hq, rfl⟩ := hb
          obtain ⟨ps, h⟩ := more q hq
          rw [hT q hq] at e
          cases e
          exact .inr (.inl ⟨((hC q hq).tab (hT q hq)).isCodeTable, rfl, #[], ps, rfl, by rw [Array.empty_append]; exact h⟩)
        · exact .inl (same b o (fun q hq z => hb ⟨q, hq, z⟩) e)
      · by_cases hb : ∃ q ∈ cs, q.2 = b
        · obtain ⟨q, hq, rfl⟩ := hb
          obtain ⟨ps, h⟩ := more q hq
          exact ⟨_, h⟩
        · exact ⟨o, same b o (fun q hq z => hb ⟨q, hq, z⟩) e⟩
    | .ok .next, z => exact (show False from z).elim
    | .ok .brk, z => exact (show False from z).elim
    | .ok .cont, z => exact (show False from z).elim
    | .error e, z => exact (show False from z).elim
  have dec : ∀ b, Decidable (∃ q ∈ cs, q.2 = b) := fun b => Classical.propDecidable _
  cases hk : K.lookup a with
  | some o =>
    have e := X0 a o hk
    rw [ha] at e
    cases e
    refine go (fun b => @ite _ (∃ q ∈ cs, q.2 = b) (dec b) (some (.tbl #[])) none) ⟨fun q hq => @if_pos _ (dec _) ⟨q, hq, rfl⟩ _ _ _, fun b => ?_, fun b z => ?_, fun z => absurd (@if_neg _ (dec a) (fun ⟨q, hq, e⟩ => na q hq e) _ _ _) z⟩
      (.inr ⟨_, vs.toArray, _, hk, rfl, rfl, rfl, by rw [List.size_toArray, hi.length]; exact hl, by simpa using rv⟩) (fun b u z => ?_)
    · by_cases hb : ∃ q ∈ cs, q.2 = b
      · exact .inr (.inl hb)
      · exact .inl (@if_neg _ (dec b) hb _ _ _)
    · by_cases hb : ∃ q ∈ cs, q.2 = b
      · exact .inr hb
      · exact absurd (@if_neg _ (dec b) hb _ _ _) z
    · by_cases hb : ∃ q ∈ cs, q.2 = b
      · have z' := (@if_pos _ (dec b) hb _ (some (HO.tbl #[])) none).symm.trans z
        cases z'
        obtain ⟨q, hq, rfl⟩ := hb
        exact hT q hq
      · have z' := (@if_neg _ (dec b) hb _ (some (HO.tbl #[])) none).symm.trans z
        cases z'
  | none =>
    obtain ⟨H0, at_a, off⟩ : ∃ H0 : Hp, H0 a = some (HO.frz { cls := .type "list", data := .seq vs.toArray } (.lst (ns.map V.int))) ∧ ∀ b, b ≠ a → H0 b = @ite _ (∃ q ∈ cs, q.2 = b) (dec b) (some (.tbl #[])) none :=
      ⟨fun b => if b = a then some (HO.frz { cls := .type "list", data := .seq vs.toArray } (.lst (ns.map V.int))) else @ite _ (∃ q ∈ cs, q.2 = b) (dec b) (some (.tbl #[])) none, if_pos rfl, fun b hb => if_neg hb⟩
    refine go H0 ⟨fun q hq => (off _ (na q hq)).trans (@if_pos _ (dec _) ⟨q, hq, rfl⟩ _ _ _), fun b => ?_, fun b z => ?_, fun _ => hk⟩ (.inl (.inr ⟨_, at_a⟩)) (fun b u z => ?_)
    · by_cases h : b = a
      · rw [h]
        exact .inr (.inr ⟨_, _, at_a⟩)
      · by_cases hb : ∃ q ∈ cs, q.2 = b
        · exact .inr (.inl hb)
        · exact .inl ((off b h).trans (@if_neg _ (dec b) hb _ _ _))
    · by_cases h : b = a
      · exact .inl h
      · by_cases hb : ∃ q ∈ cs, q.2 = b
        · exact .inr hb
        · exact absurd ((off b h).trans (@if_neg _ (dec b) hb _ _ _)) z
    · by_cases h : b = a
      · subst h
        cases at_a.symm.trans z
        exact ⟨ha, by rw [List.length_map]; exact hl, vs, _, rv, ha⟩
      · have z1 := (off b h).symm.trans z
        by_cases hb : ∃ q ∈ cs, q.2 = b
        · cases (@if_pos _ (dec b) hb _ (some (HO.tbl #[])) none).symm.trans z1
          obtain ⟨q, hq, rfl⟩ := hb
          exact hT q hq
        · cases (@if_neg _ (dec b) hb _ (some (HO.tbl #[])) none).symm.trans z1
end
end XT
set_option maxRecDepth 100000
set_option maxHeartbeats 8000000
namespace B2
open PySem PySem.Spec PyProof.Rows L2 RX LP XO
/-! ### what the top has written, looked at in one go -/
def rB (K : PySem.W.Frag) (C CI CQ : Addr) : Bool := PySem.W.plainGet K C Str.empty && (PySem.W.hasDictIn K C && (PySem.W.plainOver K C && (decide (PySem.W.findIn K (.ref C) "__setattr__" = some (some (.builtin "object.__setattr__"))) && (decide (PySem.W.findIn K (.ref C) "top" = some none) && (decide (PySem.W.findIn K (.ref C) "bottom" = some none) && (PySem.W.excIn K CI [.type "ValueError", .type "Exception", .type "BaseException", .type "object"] "ValueError.__new__" && (PySem.W.keepIn K (.ref CI) && (decide (PySem.W.subIn K (.ref CI) (.type "BaseException") = some true) && (decide (PySem.W.typeIn K (.ref CI) = some (.type "type")) && (PySem.W.excIn K CQ [.type "ValueError", .type "Exception", .type "BaseException", .type "object"] "ValueError.__new__" && (PySem.W.keepIn K (.ref CQ) && (decide (PySem.W.subIn K (.ref CQ) (.type "BaseException") = some true) && (decide (PySem.W.typeIn K (.ref CQ) = some (.type "type")) && (decide (PySem.W.findIn K (.ref C) "__class__" = some (some (.builtin "object.__class__"))) && (decide (PySem.W.specialIn K (.builtin "object.__class__") "__get__" = some (some (.builtin "getset_descriptor.__get__"))) && (decide (PySem.W.takesIn K (.builtin "object.__class__") = some true) && (decide (PySem.W.mroIn K C (.type "object") = some true) && (decide (PySem.W.kitOne K (.ref C) (.type "int") = some false) && (decide (PySem.W.kitOne K (.ref C) (.type "bool") = some false) && (decide (PySem.W.kitOne K (.ref C) (.ref C) = some true) && (["NoneType", "bool", "int", "str", "list", "tuple", "dict"].all fun n => decide (PySem.W.kitOne K (.type n) (.ref C) = some false))))))))))))))))))))))
def hB (K : PySem.W.Frag) (CI CQ CF : Addr) : Bool := decide (PySem.W.exmOne K (.ref CI) (.ref CI) = some true) && (decide (PySem.W.exmOne K (.ref CQ) (.ref CI) = some false) && (decide (PySem.W.exmOne K (.ref CQ) (.ref CQ) = some true) && (decide (PySem.W.findIn K (.ref CI) "__getattribute__" = some (some (.builtin "BaseException.__getattribute__"))) && (decide (PySem.W.findIn K (.ref CI) "__getattr__" = some none) && (decide (PySem.W.subIn K (.ref CI) (.type "BaseException") = some true) && (PySem.W.hasDictIn K CI && (decide (PySem.W.findIn K (.ref CI) "__class__" = some (some (.builtin "object.__class__"))) && (decide (PySem.W.specialIn K (.builtin "object.__class__") "__get__" = some (some (.builtin "getset_descriptor.__get__"))) && (decide (PySem.W.takesIn K (.builtin "object.__class__") = some true) && (decide (PySem.W.mroIn K CI (.type "object") = some true) && (decide (PySem.W.findIn K (.ref CQ) "__getattribute__" = some (some (.builtin "BaseException.__getattribute__"))) && (decide (PySem.W.findIn K (.ref CQ) "__getattr__" = some none) && (decide (PySem.W.subIn K (.ref CQ) (.type "BaseException") = some true) && (PySem.W.hasDictIn K CQ && (decide (PySem.W.findIn K (.ref CQ) "__class__" = some (some (.builtin "object.__class__"))) && (decide (PySem.W.specialIn K (.builtin "object.__class__") "__get__" = some (some (.builtin "getset_descriptor.__get__"))) && (decide (PySem.W.takesIn K (.builtin "object.__class__") = some true) && (decide (PySem.W.mroIn K CQ (.type "object") = some true) && (decide (PySem.W.kitOne K (.ref CI) (.ref CF) = some true) && (decide (PySem.W.kitOne K (.ref CI) (.type "ValueError") = some true) && (decide (PySem.W.kitOne K (.ref CQ) (.ref CF) = some true) && (decide (PySem.W.kitOne K (.ref CQ) (.ref CI) = some false)))))))))))))))))))))))
def sB (K : PySem.W.Frag) (C : Addr) : Bool := PySem.W.selfFirst K C && (PySem.W.notFirst K C (.ref C) && (PySem.W.notFirst K C (.type "int") && (PySem.W.notFirst K C (.type "tuple") && (decide (PySem.W.findIn K (.ref C) "__ne__" = some (some (.builtin "object.__ne__"))) && (PySem.W.makesIn K C && (PySem.W.keepIn K (.ref C) && (PySem.W.readsIn K C (.type "type") && (decide (PySem.W.specialIn K (.ref C) "__getattribute__" = some (some (.builtin "type.__getattribute__")))))))))))
theorem rt_of {K : PySem.W.Frag} {mg : Str → Option Value} {C CI CQ : Addr} (h : rB K C CI CQ = true) (gR : mg "Ratio" = some (.ref C)) (gI : mg "InvalidRatio" = some (.ref CI)) (gQ : mg "NoQuotient" = some (.ref CQ)) (gcd : mg "gcd" = some (.builtin "math.gcd")) (B : Bl mg) : RTx K mg C CI CQ := by
  unfold rB at h
  simp only [Bool.and_eq_true, decide_eq_true_eq, List.all_eq_true] at h
  obtain ⟨pg, hd, po, sa, nT, nB, xI, kI, bI, tI, xQ, kQ, bQ, tQ, ha, hn, ht, hm, kInt, kBool, kR, kOf⟩ := h
  exact { cl := ⟨pg, hd, po, sa⟩, nT := nT, nB := nB, gR := gR, gI := gI, xI := xI, kI := kI, bI := bI, tI := tI, gQ := gQ, xQ := xQ, kQ := kQ, bQ := bQ, tQ := tQ, ha := ha, hn := hn, ht := ht, hm := hm, kInt := kInt, kBool := kBool, kR := kR, kOf := kOf, gcd := gcd, isi := B.isi, int := B.int, bool := B.bool }
theorem ht_of {K : PySem.W.Frag} {mg : Str → Option Value} {CI CQ CF : Addr} (h : hB K CI CQ CF = true) (gI : mg "InvalidRatio" = some (.ref CI)) (gQ : mg "NoQuotient" = some (.ref CQ)) (gF : mg "FaceError" = some (.ref CF)) : HTx K mg CI CQ CF := by
  unfold hB at h
  simp only [Bool.and_eq_true, decide_eq_true_eq] at h
  obtain ⟨eII, eQI, eQQ, xI1, xI2, xI3, xI4, xI5, xI6, xI7, xI8, xQ1, xQ2, xQ3, xQ4, xQ5, xQ6, xQ7, xQ8, iF, iV, qF, qI⟩ := h
  exact { gI := gI, gQ := gQ, gF := gF, eII := eII, eQI := eQI, eQQ := eQQ, xI := ⟨xI1, xI2, xI3, xI4, xI5, xI6, xI7, xI8⟩, xQ := ⟨xQ1, xQ2, xQ3, xQ4, xQ5, xQ6, xQ7, xQ8⟩, iF := iF, iV := iV, qF := qF, qI := qI }
theorem dun_add : PySem.dunder Operator.Add.info.2 = ("__add__" : Str) := by decide +kernel
theorem dun_sub : PySem.dunder Operator.Sub.info.2 = ("__sub__" : Str) := by decide +kernel
theorem dun_mul : PySem.dunder Operator.Mult.info.2 = ("__mul__" : Str) := by decide +kernel
/-- the law's call, from its caller -/
def LawRun (P : Program) (w : World) (K : PySem.W.Frag) (mg : Str → Option Value) (fa : Addr) (cs : List (Addr × Addr)) : Prop := ∀ (base : Heap) (s : Shared) (a : Addr) (ns : List Int) (H : Hp), (∀ q ∈ cs, LamX.TabB base mg q.1 q.2) → Env0 P w K mg base callerA [] s H → (∀ q ∈ cs, H q.2 = some (.tbl #[])) →
  SqL K H a (ns.map V.int) → ns.length ≤ 63 → codeAny (model P w) callerA (.call (.ref fa) ⟨[.ref a], []⟩) (CR CX0 [] P w H s (fun v _ => v = .bl true) fun _ _ _ => False) s
def LawEnd (P : Program) (w : World) (K : PySem.W.Frag) (mg : Str → Option Value) (fa : Addr) (h : Heap) : Prop := ∃ cs : List (Addr × Addr), (∀ q ∈ cs, h.get? q.2 = some XT.tab0) ∧ (∀ q ∈ cs, K.lookup q.2 = none) ∧ (∀ q ∈ cs, PySem.W.CodeHd h q.1 q.2) ∧ LawRun P w K mg fa cs
theorem walk {l : PySem.W.OpenLaw} {q : Program} {loose : List Str} {XP : (Str → Option Value) → Heap → Prop} {YP : World → Heap → Prop} {d : DefRec} {K : Params → PySem.W.Frag} (hn : l.most = some 63) (hdf : d.params.defaults = []) (hY : ∀ (w : World) (h : Heap), YP w h → (K w.params).In h)
    (F : ∀ (w : World) (mg : Str → Option Value) (fa : Addr) (h : Heap), YP w h → (K w.params).In h → h.Ns mainGlobals mg → mg d.name = some (.ref fa) → LawEnd l.prog w (K w.params) mg fa h) :
    PySem.W.WalkO q loose XP YP l.row.toRowW d [] (fun f vs => PySem.call f vs) := by
  refine Att.attach_call hn hdf fun w s₀ s₁ mg mb fa o pm cd doc a vs ns G Y ho hd hcd hmg hobj hints hlen hg => ?_
  have KX := hY w _ Y
  obtain ⟨cs, hT, nT, hC, R⟩ := F w mg fa _ Y KX G.T.g hmg
  exact XT.law_atT KX G.T.g G.T.b G.T.builtins G.T.nolimit hg hT nT hC G.T.bmain hobj hints (Nat.le_trans hlen (by decide)) fun base H TB e0 tb sq => R base s₁ a ns H TB e0 tb sq hlen
theorem g11_rel {vs zs : List V} {us ws : List Value} (r1 : Vals vs us) (r2 : Vals zs ws) : Vals (g11 vs zs) (g11 us ws) := by
  cases r1 with
  | nil => exact .nil
  | cons a r =>
    cases r with
    | cons => exact .nil
    | nil =>
      cases r2 with
      | nil => exact .nil
      | cons b r' =>
        cases r' with
        | nil => exact .cons a (.cons b .nil)
        | cons => exact .nil
theorem gKw_rel {vs zs : List V} {us ws : List Value} (r1 : Vals vs us) (r2 : Vals zs ws) : Vals (gKw vs zs) (gKw us ws) := by
  cases r1 with
  | nil => exact .nil
  | cons a r =>
    cases r with
    | cons => exact .nil
    | nil =>
      cases r2 with
      | nil => exact .nil
      | cons b r' =>
        cases r' with
        | nil => exact .nil
        | cons c r'' =>
          cases r'' with
          | nil => exact .cons a (.cons c (.cons b .nil))
          | cons => exact .nil
theorem mk {P : Program} {w : World} {K : PySem.W.Frag} {h : Heap} {mg : Str → Option Value} {fa : Addr} (X : K.In h) (G : h.Ns mainGlobals mg) (hfa : mg "law" = some (.ref fa))
    {C CI CQ CF : Addr}
    {F0 : Addr} {Oc0 Kv0 Do0 Pm0 Cd0 Ct0 : Value} {Od0 An0 : Option Addr} {Sl0 : Array (Option Value)}
    {F1 : Addr} {Oc1 Kv1 Do1 Pm1 Cd1 Ct1 : Value} {Od1 An1 : Option Addr} {Sl1 : Array (Option Value)}
    {F2 : Addr} {Oc2 Kv2 Do2 Pm2 Cd2 Ct2 : Value} {Od2 An2 : Option Addr} {Sl2 : Array (Option Value)}
    {F3 : Addr} {Oc3 Kv3 Do3 Pm3 Cd3 Ct3 : Value} {Od3 An3 : Option Addr} {Sl3 : Array (Option Value)}
    {F4 : Addr} {Oc4 Kv4 Do4 Pm4 Cd4 Ct4 : Value} {Od4 An4 : Option Addr} {Sl4 : Array (Option Value)}
    {F5 : Addr} {Oc5 Kv5 Do5 Pm5 Cd5 Ct5 : Value} {Od5 An5 : Option Addr} {Sl5 : Array (Option Value)}
    {F6 : Addr} {Oc6 Kv6 Do6 Pm6 Cd6 Ct6 : Value} {Od6 An6 : Option Addr} {Sl6 : Array (Option Value)}
    {F7 : Addr} {Oc7 Kv7 Do7 Pm7 Cd7 Ct7 : Value} {Od7 An7 : Option Addr} {Sl7 : Array (Option Value)}
    {F8 : Addr} {Oc8 Kv8 Do8 Pm8 Cd8 Ct8 : Value} {Od8 An8 : Option Addr} {Sl8 : Array (Option Value)}
    {F9 : Addr} {Oc9 Kv9 Do9 Pm9 Ct9 : Value} {Od9 An9 : Option Addr} {Sl9 : Array (Option Value)} {c9 P9 : Addr} {dd9 : Option Addr} {vs9 : Array Value} {sk9 : Array (Option Value)}
    {F10 : Addr} {Oc10 Kv10 Do10 Pm10 Ct10 : Value} {Od10 An10 : Option Addr} {Sl10 : Array (Option Value)} {c10 P10 : Addr} {dd10 : Option Addr} {vs10 : Array Value} {sk10 : Array (Option Value)}
    {F11 : Addr} {Oc11 Kv11 Do11 Pm11 Cd11 Ct11 : Value} {Od11 An11 : Option Addr} {Sl11 : Array (Option Value)}
    {M0 : Addr} {Mo0 Mk0 Md0 Mp0 Mc0 Mt0 : Value} {Mq0 Mn0 : Option Addr} {Ms0 : Array (Option Value)}
    {dT : Addr} {oT : Value} {qT : Option Addr} {nT : Nat} {tT : Tok} {sT : Array (Option Value)}
    {M1 : Addr} {Mo1 Mk1 Md1 Mp1 Mc1 Mt1 : Value} {Mq1 Mn1 : Option Addr} {Ms1 : Array (Option Value)}
    {pO : Addr} {rO : List Value}
    {M2 : Addr} {Mo2 Mk2 Md2 Mp2 Mc2 Mt2 : Value} {Mq2 Mn2 : Option Addr} {Ms2 : Array (Option Value)}
    {M3 : Addr} {Mo3 Mk3 Md3 Mp3 Mc3 Mt3 : Value} {Mq3 Mn3 : Option Addr} {Ms3 : Array (Option Value)}
    {M4 : Addr} {Mo4 Mk4 Md4 Mp4 Mc4 Mt4 : Value} {Mq4 Mn4 : Option Addr} {Ms4 : Array (Option Value)}
    {M5 : Addr} {Mo5 Mk5 Md5 Mp5 Mc5 Mt5 : Value} {Mq5 Mn5 : Option Addr} {Ms5 : Array (Option Value)}
    {M6 : Addr} {Mo6 Mk6 Md6 Mp6 Mc6 Mt6 : Value} {Mq6 Mn6 : Option Addr} {Ms6 : Array (Option Value)}
    {M7 : Addr} {Mo7 Mk7 Md7 Mp7 Mc7 Mt7 : Value} {Mq7 Mn7 : Option Addr} {Ms7 : Array (Option Value)}
    {M8 : Addr} {Mo8 Mk8 Md8 Mp8 Mc8 Mt8 : Value} {Mq8 Mn8 : Option Addr} {Ms8 : Array (Option Value)}
    {M9 : Addr} {Mo9 Mk9 Md9 Mp9 Mc9 Mt9 : Value} {Mq9 Mn9 : Option Addr} {Ms9 : Array (Option Value)}
    (gC : PySem.W.nsIn K mainGlobals "Ratio" = some (some (.ref C)))
    (gCI : PySem.W.nsIn K mainGlobals "InvalidRatio" = some (some (.ref CI)))
    (gCQ : PySem.W.nsIn K mainGlobals "NoQuotient" = some (some (.ref CQ)))
    (gCF : PySem.W.nsIn K mainGlobals "FaceError" = some (some (.ref CF)))
    (gG : PySem.W.nsIn K mainGlobals "gcd" = some (some (.builtin "math.gcd")))
    (z_abs : PySem.W.nsIn K mainGlobals "abs" = some none)
    (z_int : PySem.W.nsIn K mainGlobals "int" = some none)
    (z_isinstance : PySem.W.nsIn K mainGlobals "isinstance" = some none)
    (z_bool : PySem.W.nsIn K mainGlobals "bool" = some none)
    (z_repr : PySem.W.nsIn K mainGlobals "repr" = some none)
    (z_list : PySem.W.nsIn K mainGlobals "list" = some none)
    (z_len : PySem.W.nsIn K mainGlobals "len" = some none)
    (z_range : PySem.W.nsIn K mainGlobals "range" = some none)
    (z_ValueError : PySem.W.nsIn K mainGlobals "ValueError" = some none)
    (A0 : PySem.W.nsIn K mainGlobals "_law_pen" = some (some (.ref F0)))
    (L0 : K.lookup F0 = some ⟨Oc0, Od0, .func (PySem.W.fnOf "_law_pen" "_law_pen" (defArgs sPen) (defBody sPen) (defScope sPen) .none Kv0 Do0 Pm0 An0 Cd0 Ct0), Sl0⟩)
    (Q0 : PySem.W.codeIn K Cd0 "_law_pen" = true)
    (K0 : PySem.W.keepIn K (.ref F0) = true)
    (A1 : PySem.W.nsIn K mainGlobals "_law_draw" = some (some (.ref F1)))
    (L1 : K.lookup F1 = some ⟨Oc1, Od1, .func (PySem.W.fnOf "_law_draw" "_law_draw" (defArgs sDraw) (defBody sDraw) (defScope sDraw) .none Kv1 Do1 Pm1 An1 Cd1 Ct1), Sl1⟩)
    (Q1 : PySem.W.codeIn K Cd1 "_law_draw" = true)
    (K1 : PySem.W.keepIn K (.ref F1) = true)
    (A2 : PySem.W.nsIn K mainGlobals "_law_number" = some (some (.ref F2)))
    (L2 : K.lookup F2 = some ⟨Oc2, Od2, .func (PySem.W.fnOf "_law_number" "_law_number" (defArgs sNumber) (defBody sNumber) (defScope sNumber) .none Kv2 Do2 Pm2 An2 Cd2 Ct2), Sl2⟩)
    (Q2 : PySem.W.codeIn K Cd2 "_law_number" = true)
    (K2 : PySem.W.keepIn K (.ref F2) = true)
    (A3 : PySem.W.nsIn K mainGlobals "_law_far" = some (some (.ref F3)))
    (L3 : K.lookup F3 = some ⟨Oc3, Od3, .func (PySem.W.fnOf "_law_far" "_law_far" (defArgs sFar) (defBody sFar) (defScope sFar) .none Kv3 Do3 Pm3 An3 Cd3 Ct3), Sl3⟩)
    (Q3 : PySem.W.codeIn K Cd3 "_law_far" = true)
    (K3 : PySem.W.keepIn K (.ref F3) = true)
    (A4 : PySem.W.nsIn K mainGlobals "_law_divisor" = some (some (.ref F4)))
    (L4 : K.lookup F4 = some ⟨Oc4, Od4, .func (PySem.W.fnOf "_law_divisor" "_law_divisor" (defArgs sDivisor) (defBody sDivisor) (defScope sDivisor) .none Kv4 Do4 Pm4 An4 Cd4 Ct4), Sl4⟩)
    (Q4 : PySem.W.codeIn K Cd4 "_law_divisor" = true)
    (K4 : PySem.W.keepIn K (.ref F4) = true)
    (A5 : PySem.W.nsIn K mainGlobals "_law_lowest" = some (some (.ref F5)))
    (L5 : K.lookup F5 = some ⟨Oc5, Od5, .func (PySem.W.fnOf "_law_lowest" "_law_lowest" (defArgs sLowest) (defBody sLowest) (defScope sLowest) .none Kv5 Do5 Pm5 An5 Cd5 Ct5), Sl5⟩)
    (Q5 : PySem.W.codeIn K Cd5 "_law_lowest" = true)
    (K5 : PySem.W.keepIn K (.ref F5) = true)
    (A6 : PySem.W.nsIn K mainGlobals "_law_is" = some (some (.ref F6)))
    (L6 : K.lookup F6 = some ⟨Oc6, Od6, .func (PySem.W.fnOf "_law_is" "_law_is" (defArgs sIs) (defBody sIs) (defScope sIs) .none Kv6 Do6 Pm6 An6 Cd6 Ct6), Sl6⟩)
    (Q6 : PySem.W.codeIn K Cd6 "_law_is" = true)
    (K6 : PySem.W.keepIn K (.ref F6) = true)
    (A7 : PySem.W.nsIn K mainGlobals "_law_pair" = some (some (.ref F7)))
    (L7 : K.lookup F7 = some ⟨Oc7, Od7, .func (PySem.W.fnOf "_law_pair" "_law_pair" (defArgs sPair) (defBody sPair) (defScope sPair) .none Kv7 Do7 Pm7 An7 Cd7 Ct7), Sl7⟩)
    (Q7 : PySem.W.codeIn K Cd7 "_law_pair" = true)
    (K7 : PySem.W.keepIn K (.ref F7) = true)
    (A8 : PySem.W.nsIn K mainGlobals "_law_heard" = some (some (.ref F8)))
    (L8 : K.lookup F8 = some ⟨Oc8, Od8, .func (PySem.W.fnOf "_law_heard" "_law_heard" (defArgs sHeard) (defBody sHeard) (defScope sHeard) .none Kv8 Do8 Pm8 An8 Cd8 Ct8), Sl8⟩)
    (Q8 : PySem.W.codeIn K Cd8 "_law_heard" = true)
    (K8 : PySem.W.keepIn K (.ref F8) = true)
    (A9 : PySem.W.nsIn K mainGlobals "_law_two_right" = some (some (.ref F9)))
    (L9 : K.lookup F9 = some ⟨Oc9, Od9, .func (PySem.W.fnOf "_law_two_right" "_law_two_right" (defArgs sTwo) (defBody sTwo) (defScope sTwo) .none Kv9 Do9 Pm9 An9 (.ref c9) Ct9), Sl9⟩)
    (Q9 : PySem.W.codeIn K (.ref c9) "_law_two_right" = true)
    (K9 : PySem.W.keepIn K (.ref F9) = true)
    (V9 : K.lookup c9 = some ⟨.type "code", dd9, .fields vs9, sk9⟩)
    (W9 : vs9[11]? = some (.ref P9))
    (N9 : K.lookup P9 = none)
    (H9 : PySem.W.codeHdIn K c9 P9 = true)
    (T9 : h.get? P9 = some XT.tab0)
    (A10 : PySem.W.nsIn K mainGlobals "_law_odd_right" = some (some (.ref F10)))
    (L10 : K.lookup F10 = some ⟨Oc10, Od10, .func (PySem.W.fnOf "_law_odd_right" "_law_odd_right" (defArgs sOdd) (defBody sOdd) (defScope sOdd) .none Kv10 Do10 Pm10 An10 (.ref c10) Ct10), Sl10⟩)
    (Q10 : PySem.W.codeIn K (.ref c10) "_law_odd_right" = true)
    (K10 : PySem.W.keepIn K (.ref F10) = true)
    (V10 : K.lookup c10 = some ⟨.type "code", dd10, .fields vs10, sk10⟩)
    (W10 : vs10[11]? = some (.ref P10))
    (N10 : K.lookup P10 = none)
    (H10 : PySem.W.codeHdIn K c10 P10 = true)
    (T10 : h.get? P10 = some XT.tab0)
    (A11 : PySem.W.nsIn K mainGlobals "law" = some (some (.ref F11)))
    (L11 : K.lookup F11 = some ⟨Oc11, Od11, .func (PySem.W.fnOf "law" "law" (defArgs sLaw) (defBody sLaw) (defScope sLaw) .none Kv11 Do11 Pm11 An11 Cd11 Ct11), Sl11⟩)
    (Q11 : PySem.W.codeIn K Cd11 "law" = true)
    (K11 : PySem.W.keepIn K (.ref F11) = true)
    (PP : P9 ≠ P10)
    (m0 : PySem.W.findIn K (.ref C) "__init__" = some (some (.ref M0)))
    (l0 : K.lookup M0 = some ⟨Mo0, Mq0, .func (PySem.W.fnOf "__init__" "Ratio.__init__" (defArgs sInit) (defBody sInit) (defScope sInit) (.ref dT) Mk0 Md0 Mp0 Mn0 Mc0 Mt0), Ms0⟩)
    (lT : K.lookup dT = some ⟨oT, qT, .seq [Value.int 1 tT].toArray nT, sT⟩)
    (q0 : PySem.W.codeIn K Mc0 "Ratio.__init__" = true)
    (k0 : PySem.W.keepIn K (.ref M0) = true)
    (i0 : PySem.W.isFn K (.ref M0) = true)
    (m_of : PySem.W.findIn K (.ref C) "of" = some (some (.ref pO)))
    (r_of : PySem.W.recIn K pO "classmethod" = some (.ref M1 :: rO))
    (c_of : PySem.W.findCls K (.ref C) (.type "type") "of" = some (.get (.builtin "classmethod.__get__") (.ref pO) .none (.ref C)))
    (f_of : PySem.W.fnIn K M1 = true)
    (l1 : K.lookup M1 = some ⟨Mo1, Mq1, .func (PySem.W.fnOf "of" "Ratio.of" (defArgs sOf) (defBody sOf) (defScope sOf) .none Mk1 Md1 Mp1 Mn1 Mc1 Mt1), Ms1⟩)
    (q1 : PySem.W.codeIn K Mc1 "Ratio.of" = true)
    (k1 : PySem.W.keepIn K (.ref M1) = true)
    (m2 : PySem.W.findIn K (.ref C) "__add__" = some (some (.ref M2)))
    (l2 : K.lookup M2 = some ⟨Mo2, Mq2, .func (PySem.W.fnOf "__add__" "Ratio.__add__" (defArgs sAdd) (defBody sAdd) (defScope sAdd) .none Mk2 Md2 Mp2 Mn2 Mc2 Mt2), Ms2⟩)
    (q2 : PySem.W.codeIn K Mc2 "Ratio.__add__" = true)
    (k2 : PySem.W.keepIn K (.ref M2) = true)
    (i2 : PySem.W.isFn K (.ref M2) = true)
    (m3 : PySem.W.findIn K (.ref C) "__sub__" = some (some (.ref M3)))
    (l3 : K.lookup M3 = some ⟨Mo3, Mq3, .func (PySem.W.fnOf "__sub__" "Ratio.__sub__" (defArgs sSub) (defBody sSub) (defScope sSub) .none Mk3 Md3 Mp3 Mn3 Mc3 Mt3), Ms3⟩)
    (q3 : PySem.W.codeIn K Mc3 "Ratio.__sub__" = true)
    (k3 : PySem.W.keepIn K (.ref M3) = true)
    (i3 : PySem.W.isFn K (.ref M3) = true)
    (m4 : PySem.W.findIn K (.ref C) "__mul__" = some (some (.ref M4)))
    (l4 : K.lookup M4 = some ⟨Mo4, Mq4, .func (PySem.W.fnOf "__mul__" "Ratio.__mul__" (defArgs sMul) (defBody sMul) (defScope sMul) .none Mk4 Md4 Mp4 Mn4 Mc4 Mt4), Ms4⟩)
    (q4 : PySem.W.codeIn K Mc4 "Ratio.__mul__" = true)
    (k4 : PySem.W.keepIn K (.ref M4) = true)
    (i4 : PySem.W.isFn K (.ref M4) = true)
    (m5 : PySem.W.findIn K (.ref C) "__neg__" = some (some (.ref M5)))
    (l5 : K.lookup M5 = some ⟨Mo5, Mq5, .func (PySem.W.fnOf "__neg__" "Ratio.__neg__" (defArgs sNeg) (defBody sNeg) (defScope sNeg) .none Mk5 Md5 Mp5 Mn5 Mc5 Mt5), Ms5⟩)
    (q5 : PySem.W.codeIn K Mc5 "Ratio.__neg__" = true)
    (k5 : PySem.W.keepIn K (.ref M5) = true)
    (i5 : PySem.W.isFn K (.ref M5) = true)
    (m6 : PySem.W.findIn K (.ref C) "__eq__" = some (some (.ref M6)))
    (l6 : K.lookup M6 = some ⟨Mo6, Mq6, .func (PySem.W.fnOf "__eq__" "Ratio.__eq__" (defArgs sEq) (defBody sEq) (defScope sEq) .none Mk6 Md6 Mp6 Mn6 Mc6 Mt6), Ms6⟩)
    (q6 : PySem.W.codeIn K Mc6 "Ratio.__eq__" = true)
    (k6 : PySem.W.keepIn K (.ref M6) = true)
    (i6 : PySem.W.isFn K (.ref M6) = true)
    (m7 : PySem.W.findIn K (.ref C) "__bool__" = some (some (.ref M7)))
    (l7 : K.lookup M7 = some ⟨Mo7, Mq7, .func (PySem.W.fnOf "__bool__" "Ratio.__bool__" (defArgs sBool) (defBody sBool) (defScope sBool) .none Mk7 Md7 Mp7 Mn7 Mc7 Mt7), Ms7⟩)
    (q7 : PySem.W.codeIn K Mc7 "Ratio.__bool__" = true)
    (k7 : PySem.W.keepIn K (.ref M7) = true)
    (i7 : PySem.W.isFn K (.ref M7) = true)
    (m8 : PySem.W.findIn K (.ref C) "under" = some (some (.ref M8)))
    (l8 : K.lookup M8 = some ⟨Mo8, Mq8, .func (PySem.W.fnOf "under" "Ratio.under" (defArgs sUnder) (defBody sUnder) (defScope sUnder) .none Mk8 Md8 Mp8 Mn8 Mc8 Mt8), Ms8⟩)
    (q8 : PySem.W.codeIn K Mc8 "Ratio.under" = true)
    (k8 : PySem.W.keepIn K (.ref M8) = true)
    (i8 : PySem.W.isFn K (.ref M8) = true)
    (m9 : PySem.W.findIn K (.ref C) "over" = some (some (.ref M9)))
    (l9 : K.lookup M9 = some ⟨Mo9, Mq9, .func (PySem.W.fnOf "over" "Ratio.over" (defArgs sOver) (defBody sOver) (defScope sOver) .none Mk9 Md9 Mp9 Mn9 Mc9 Mt9), Ms9⟩)
    (q9 : PySem.W.codeIn K Mc9 "Ratio.over" = true)
    (k9 : PySem.W.keepIn K (.ref M9) = true)
    (i9 : PySem.W.isFn K (.ref M9) = true)
    (rb : rB K C CI CQ = true)
    (hb : hB K CI CQ CF = true)
    (sb : sB K C = true) : LawEnd P w K mg fa h := by
  have e := hfa.symm.trans (PySem.W.mg_of X G A11)
  cases e
  have B : Bl mg := { abs := PySem.W.mg_none_of X G z_abs, int := PySem.W.mg_none_of X G z_int, isi := PySem.W.mg_none_of X G z_isinstance, bool := PySem.W.mg_none_of X G z_bool, repr := PySem.W.mg_none_of X G z_repr, list := PySem.W.mg_none_of X G z_list, len := PySem.W.mg_none_of X G z_len, range := PySem.W.mg_none_of X G z_range, ve := PySem.W.mg_none_of X G z_ValueError }
  have T : RTx K mg C CI CQ := rt_of rb (PySem.W.mg_of X G gC) (PySem.W.mg_of X G gCI) (PySem.W.mg_of X G gCQ) (PySem.W.mg_of X G gG) B
  have HT : HTx K mg CI CQ CF := ht_of hb (PySem.W.mg_of X G gCI) (PySem.W.mg_of X G gCQ) (PySem.W.mg_of X G gCF)
  unfold sB at sb
  simp only [Bool.and_eq_true, decide_eq_true_eq] at sb
  obtain ⟨sf, nf, nfI, nfT, ne, mk, kc, rd, ga⟩ := sb
  have Y0 := fun_mk (st := sPen) L0 Q0 K0
  have D0 : At K mg "_law_pen" F0 (PySem.W.fnOf "_law_pen" "_law_pen" (defArgs sPen) (defBody sPen) (defScope sPen) .none Kv0 Do0 Pm0 An0 Cd0 Ct0) ["_law_script"] := ⟨PySem.W.mg_of X G A0, K0, Y0.binds fun _ _ _ _ _ _ us hl => match us, hl with | [_], _ => rfl⟩
  have Y1 := fun_mk (st := sDraw) L1 Q1 K1
  have D1 : At K mg "_law_draw" F1 (PySem.W.fnOf "_law_draw" "_law_draw" (defArgs sDraw) (defBody sDraw) (defScope sDraw) .none Kv1 Do1 Pm1 An1 Cd1 Ct1) ["_law_pen_here", "_law_many"] := ⟨PySem.W.mg_of X G A1, K1, Y1.binds fun _ _ _ _ _ _ us hl => match us, hl with | [_, _], _ => rfl⟩
  have Y2 := fun_mk (st := sNumber) L2 Q2 K2
  have D2 : At K mg "_law_number" F2 (PySem.W.fnOf "_law_number" "_law_number" (defArgs sNumber) (defBody sNumber) (defScope sNumber) .none Kv2 Do2 Pm2 An2 Cd2 Ct2) ["_law_pen_here"] := ⟨PySem.W.mg_of X G A2, K2, Y2.binds fun _ _ _ _ _ _ us hl => match us, hl with | [_], _ => rfl⟩
  have Y3 := fun_mk (st := sFar) L3 Q3 K3
  have D3 : At K mg "_law_far" F3 (PySem.W.fnOf "_law_far" "_law_far" (defArgs sFar) (defBody sFar) (defScope sFar) .none Kv3 Do3 Pm3 An3 Cd3 Ct3) ["_law_pen_here"] := ⟨PySem.W.mg_of X G A3, K3, Y3.binds fun _ _ _ _ _ _ us hl => match us, hl with | [_], _ => rfl⟩
  have Y4 := fun_mk (st := sDivisor) L4 Q4 K4
  have D4 : At K mg "_law_divisor" F4 (PySem.W.fnOf "_law_divisor" "_law_divisor" (defArgs sDivisor) (defBody sDivisor) (defScope sDivisor) .none Kv4 Do4 Pm4 An4 Cd4 Ct4) ["_law_one", "_law_two"] := ⟨PySem.W.mg_of X G A4, K4, Y4.binds fun _ _ _ _ _ _ us hl => match us, hl with | [_, _], _ => rfl⟩
  have Y5 := fun_mk (st := sLowest) L5 Q5 K5
  have D5 : At K mg "_law_lowest" F5 (PySem.W.fnOf "_law_lowest" "_law_lowest" (defArgs sLowest) (defBody sLowest) (defScope sLowest) .none Kv5 Do5 Pm5 An5 Cd5 Ct5) ["_law_up", "_law_down"] := ⟨PySem.W.mg_of X G A5, K5, Y5.binds fun _ _ _ _ _ _ us hl => match us, hl with | [_, _], _ => rfl⟩
  have Y6 := fun_mk (st := sIs) L6 Q6 K6
  have D6 : At K mg "_law_is" F6 (PySem.W.fnOf "_law_is" "_law_is" (defArgs sIs) (defBody sIs) (defScope sIs) .none Kv6 Do6 Pm6 An6 Cd6 Ct6) ["_law_found", "_law_up", "_law_down"] := ⟨PySem.W.mg_of X G A6, K6, Y6.binds fun _ _ _ _ _ _ us hl => match us, hl with | [_, _, _], _ => rfl⟩
  have Y7 := fun_mk (st := sPair) L7 Q7 K7
  have D7 : At K mg "_law_pair" F7 (PySem.W.fnOf "_law_pair" "_law_pair" (defArgs sPair) (defBody sPair) (defScope sPair) .none Kv7 Do7 Pm7 An7 Cd7 Ct7) ["_law_pen_here"] := ⟨PySem.W.mg_of X G A7, K7, Y7.binds fun _ _ _ _ _ _ us hl => match us, hl with | [_], _ => rfl⟩
  have Y9 := fun_mk (st := sTwo) L9 Q9 K9
  have D9 : At K mg "_law_two_right" F9 (PySem.W.fnOf "_law_two_right" "_law_two_right" (defArgs sTwo) (defBody sTwo) (defScope sTwo) .none Kv9 Do9 Pm9 An9 (.ref c9) Ct9) ["_law_one", "_law_two", "_law_here", "_law_there"] := ⟨PySem.W.mg_of X G A9, K9, Y9.binds fun _ _ _ _ _ _ us hl => match us, hl with | [_, _, _, _], _ => rfl⟩
  have Y10 := fun_mk (st := sOdd) L10 Q10 K10
  have D10 : At K mg "_law_odd_right" F10 (PySem.W.fnOf "_law_odd_right" "_law_odd_right" (defArgs sOdd) (defBody sOdd) (defScope sOdd) .none Kv10 Do10 Pm10 An10 (.ref c10) Ct10) ["_law_pen_here"] := ⟨PySem.W.mg_of X G A10, K10, Y10.binds fun _ _ _ _ _ _ us hl => match us, hl with | [_], _ => rfl⟩
  have Y11 := fun_mk (st := sLaw) L11 Q11 K11
  have HH : HAt K mg F8 := ⟨PySem.W.mg_of X G A8, K8, ⟨_, _, _, _, _, _, _, _, _, L8, Q8⟩⟩
  have FI : FunD K "__init__" "Ratio.__init__" (defArgs sInit) (defBody sInit) (defScope sInit) [V.int 1] [] M0 (PySem.W.fnOf "__init__" "Ratio.__init__" (defArgs sInit) (defBody sInit) (defScope sInit) (.ref dT) Mk0 Md0 Mp0 Mn0 Mc0 Mt0) := ⟨⟨_, _, _, _, _, _, _, _, _, _, rfl, l0, q0, .inr ⟨List.cons_ne_nil _ _, dT, _, [Value.int 1 tT], nT, rfl, lT, rfl, .cons ⟨tT, rfl⟩ .nil⟩, .inl rfl⟩, k0⟩
  have bI2 : Binds K (PySem.W.fnOf "__init__" "Ratio.__init__" (defArgs sInit) (defBody sInit) (defScope sInit) (.ref dT) Mk0 Md0 Mp0 Mn0 Mc0 Mt0) psI [] := by
    obtain ⟨ds, r, z⟩ := FI.binds1 (ps := psI) 3 1 (List.cons_ne_nil _ _) rfl (fun T kV doc pm an cdv ct us its l1 l2 => match us, its, l1, l2 with | [_, _, _], [_], _, _ => ⟨_, rfl, rfl⟩)
    cases r
    exact z
  have bI1 : ∃ ds, Vals [V.int 1] ds ∧ Binds K (PySem.W.fnOf "__init__" "Ratio.__init__" (defArgs sInit) (defBody sInit) (defScope sInit) (.ref dT) Mk0 Md0 Mp0 Mn0 Mc0 Mt0) psI ds := FI.binds1 (ps := psI) 2 0 (List.cons_ne_nil _ _) rfl (fun T kV doc pm an cdv ct us its l1 l2 => match us, its, l1, l2 with | [_, _], [_], _, _ => ⟨_, rfl, rfl⟩)
  have bIk : KBn K (PySem.W.fnOf "__init__" "Ratio.__init__" (defArgs sInit) (defBody sInit) (defScope sInit) (.ref dT) Mk0 Md0 Mp0 Mn0 Mc0 Mt0) psI 1 ["bottom", "top"] gKw gKw := by
    obtain ⟨its, z⟩ := FI.kbindsD (ps := psI) 1 ["bottom", "top"] (fun us _ ws => gKw us ws) (List.cons_ne_nil _ _) (fun r1 _ r2 => gKw_rel r1 r2) (fun T kV doc pm an cdv ct us its ws l1 l2 l3 => match us, its, ws, l1, l2, l3 with | [_], [_], [_, _], _, _, _ => ⟨_, rfl, rfl⟩)
    exact z
  have U1 := fun_mk (st := sOf) l1 q1 k1
  have u1 : Binds K (PySem.W.fnOf "of" "Ratio.of" (defArgs sOf) (defBody sOf) (defScope sOf) .none Mk1 Md1 Mp1 Mn1 Mc1 Mt1) ["cls", "number"] [] := U1.binds fun _ _ _ _ _ _ us hl => match us, hl with | [_, _], _ => rfl
  have v1 : KBinds K (PySem.W.fnOf "of" "Ratio.of" (defArgs sOf) (defBody sOf) (defScope sOf) .none Mk1 Md1 Mp1 Mn1 Mc1 Mt1) ["cls", "number"] ["number"] g11 g11 := ⟨fun s us ws _ hl => match us, ws, hl with | [_], [_], _ => .of_eq rfl, fun r1 r2 => g11_rel r1 r2⟩
  have U2 := fun_mk (st := sAdd) l2 q2 k2
  have u2 : Binds K (PySem.W.fnOf "__add__" "Ratio.__add__" (defArgs sAdd) (defBody sAdd) (defScope sAdd) .none Mk2 Md2 Mp2 Mn2 Mc2 Mt2) ["self", "other"] [] := U2.binds fun _ _ _ _ _ _ us hl => match us, hl with | [_, _], _ => rfl
  have U3 := fun_mk (st := sSub) l3 q3 k3
  have u3 : Binds K (PySem.W.fnOf "__sub__" "Ratio.__sub__" (defArgs sSub) (defBody sSub) (defScope sSub) .none Mk3 Md3 Mp3 Mn3 Mc3 Mt3) ["self", "other"] [] := U3.binds fun _ _ _ _ _ _ us hl => match us, hl with | [_, _], _ => rfl
  have U4 := fun_mk (st := sMul) l4 q4 k4
  have u4 : Binds K (PySem.W.fnOf "__mul__" "Ratio.__mul__" (defArgs sMul) (defBody sMul) (defScope sMul) .none Mk4 Md4 Mp4 Mn4 Mc4 Mt4) ["self", "other"] [] := U4.binds fun _ _ _ _ _ _ us hl => match us, hl with | [_, _], _ => rfl
  have U5 := fun_mk (st := sNeg) l5 q5 k5
  have u5 : Binds K (PySem.W.fnOf "__neg__" "Ratio.__neg__" (defArgs sNeg) (defBody sNeg) (defScope sNeg) .none Mk5 Md5 Mp5 Mn5 Mc5 Mt5) ["self"] [] := U5.binds fun _ _ _ _ _ _ us hl => match us, hl with | [_], _ => rfl
  have U6 := fun_mk (st := sEq) l6 q6 k6
  have u6 : Binds K (PySem.W.fnOf "__eq__" "Ratio.__eq__" (defArgs sEq) (defBody sEq) (defScope sEq) .none Mk6 Md6 Mp6 Mn6 Mc6 Mt6) ["self", "other"] [] := U6.binds fun _ _ _ _ _ _ us hl => match us, hl with | [_, _], _ => rfl
  have U7 := fun_mk (st := sBool) l7 q7 k7
  have u7 : Binds K (PySem.W.fnOf "__bool__" "Ratio.__bool__" (defArgs sBool) (defBody sBool) (defScope sBool) .none Mk7 Md7 Mp7 Mn7 Mc7 Mt7) ["self"] [] := U7.binds fun _ _ _ _ _ _ us hl => match us, hl with | [_], _ => rfl
  have U8 := fun_mk (st := sUnder) l8 q8 k8
  have u8 : Binds K (PySem.W.fnOf "under" "Ratio.under" (defArgs sUnder) (defBody sUnder) (defScope sUnder) .none Mk8 Md8 Mp8 Mn8 Mc8 Mt8) ["self", "other"] [] := U8.binds fun _ _ _ _ _ _ us hl => match us, hl with | [_, _], _ => rfl
  have v8 : KBinds K (PySem.W.fnOf "under" "Ratio.under" (defArgs sUnder) (defBody sUnder) (defScope sUnder) .none Mk8 Md8 Mp8 Mn8 Mc8 Mt8) ["self", "other"] ["other"] g11 g11 := ⟨fun s us ws _ hl => match us, ws, hl with | [_], [_], _ => .of_eq rfl, fun r1 r2 => g11_rel r1 r2⟩
  have U9 := fun_mk (st := sOver) l9 q9 k9
  have u9 : Binds K (PySem.W.fnOf "over" "Ratio.over" (defArgs sOver) (defBody sOver) (defScope sOver) .none Mk9 Md9 Mp9 Mn9 Mc9 Mt9) ["self", "other"] [] := U9.binds fun _ _ _ _ _ _ us hl => match us, hl with | [_, _], _ => rfl
  have v9 : KBinds K (PySem.W.fnOf "over" "Ratio.over" (defArgs sOver) (defBody sOver) (defScope sOver) .none Mk9 Md9 Mp9 Mn9 Mc9 Mt9) ["self", "other"] ["other"] g11 g11 := ⟨fun s us ws _ hl => match us, ws, hl with | [_], [_], _ => .of_eq rfl, fun r1 r2 => g11_rel r1 r2⟩
  have RM : ∀ {base : Heap}, RMk P w K mg base C CI M0 (PySem.W.fnOf "__init__" "Ratio.__init__" (defArgs sInit) (defBody sInit) (defScope sInit) (.ref dT) Mk0 Md0 Mp0 Mn0 Mc0 Mt0) := ⟨⟨mk, m0, i0, kc⟩, ok_init FI T, bI2, bI1⟩
  have R : ∀ {base : Heap}, RR P w K mg base C CI CQ := { sf := sf, nf := nf, nfI := nfI, nfT := nfT, ne := ne, add := ⟨M2, _, ok_add T U2 RM, ⟨by rw [dun_add]; exact m2, i2⟩, u2⟩, sub := ⟨M3, _, ok_sub T U3 RM, ⟨by rw [dun_sub]; exact m3, i3⟩, u3⟩, mul := ⟨M4, _, ok_mul T U4 RM, ⟨by rw [dun_mul]; exact m4, i4⟩, u4⟩, neg := ⟨M5, _, ok_neg T U5 RM, ⟨m5, i5⟩, u5⟩, eq := ⟨M6, _, ok_eq T U6, ⟨m6, i6⟩, u6⟩, boo := ⟨M7, _, ok_bool T U7, ⟨m7, i7⟩, u7⟩, und := ⟨M8, _, ok_under T U8, ⟨m8, i8, k8⟩, u8, v8⟩, ovr := ⟨M9, _, ok_over T U9 RM, ⟨m9, i9, k9⟩, u9, v9⟩, of := ⟨.type "type", pO, M1, _, ⟨rd, ga⟩, ⟨c_of, ⟨rO, r_of⟩, f_of⟩, ok_of T U1 RM, u1, v1⟩, mkr := ⟨M0, _, RM, bIk⟩ }
  refine ⟨[(c9, P9), (c10, P10)], List.forall_mem_cons.mpr ⟨T9, List.forall_mem_cons.mpr ⟨T10, fun _ z => nomatch z⟩⟩, List.forall_mem_cons.mpr ⟨N9, List.forall_mem_cons.mpr ⟨N10, fun _ z => nomatch z⟩⟩, List.forall_mem_cons.mpr ⟨PySem.W.codeHd_of_K X H9, List.forall_mem_cons.mpr ⟨PySem.W.codeHd_of_K X H10, fun _ z => nomatch z⟩⟩, fun base s a ns H TB e0 tb sq hl => ?_⟩
  have TB1 := TB _ (List.mem_cons_self ..)
  have TB2 := TB _ (List.mem_cons_of_mem _ (List.mem_cons_self ..))
  have Gd := ok_draw (P := P) (w := w) (base := base) Y1 B
  have Gn := ok_number (P := P) (w := w) (base := base) Y2 Gd D1
  have Gf := ok_far (P := P) (w := w) (base := base) Y3 Gd D1
  have Gv := ok_divisor (P := P) (w := w) (base := base) Y4 B
  have Gl := ok_lowest (P := P) (w := w) (base := base) Y5 Gv D4
  have Gs := ok_is (P := P) (w := w) (base := base) Y6 T B Gl D5
  have Gp := ok_pair (P := P) (w := w) (base := base) Y7 Gd D1 Gn D2
  have Gt := ok_two (P := P) (w := w) (base := base) (P1 := P9) (P2 := P10) ⟨⟨_, _, _, _, _, _, _, _, rfl, L9, Q9⟩⟩ T B HT R Gs D6 HH TB1 PP
  have Go := ok_odd (P := P) (w := w) (base := base) (P1 := P9) (P2 := P10) ⟨⟨_, _, _, _, _, _, _, _, rfl, L10, Q10⟩⟩ T B HT R Gs D6 HH TB2 PP Gd D1 Gn D2
  have Ge := ok_pen (P := P) (w := w) (base := base) Y0 B
  have L := ok_law (P := P) (w := w) (base := base) (fD := F0) (fN := F0) (fdD := (PySem.W.fnOf "_law_pen" "_law_pen" (defArgs sPen) (defBody sPen) (defScope sPen) .none Kv0 Do0 Pm0 An0 Cd0 Ct0)) (fdN := (PySem.W.fnOf "_law_pen" "_law_pen" (defArgs sPen) (defBody sPen) (defScope sPen) .none Kv0 Do0 Pm0 An0 Cd0 Ct0)) (P1 := P9) (P2 := P10) Y11 T B R Gs D6 Ge D0 Gp D7 Gf D3 Gt D9 Go D10
  refine L.run callerA [] s H ⟨[.ref a], []⟩ [.ref a] [.ref a] _ _ ⟨rfl, by decide, by decide⟩ rfl e0 (.of_eq rfl) (.cons rfl .nil) ⟨a, ns, rfl, sq, hl, ?_, fun _ => rfl⟩
  intro p hp
  rcases List.mem_cons.mp hp with rfl | hp
  · exact LamX.TabS.nil (tb _ (List.mem_cons_self ..))
  · rcases List.mem_cons.mp hp with rfl | hp
    · exact LamX.TabS.nil (tb _ (List.mem_cons_of_mem _ (List.mem_cons_self ..)))
    · cases hp
end B2
open PySem PySem.W PyProof.Rows
set_option maxRecDepth 100000 in
set_option maxHeartbeats 0 in
theorem PySem.Challenge.cw_betweenfaces_k02_fractions_in_lowest_ter_holds : PySem.Challenge.rw_betweenfaces_k02_fractions_in_lowest_ter.Holds := by
  w_on; o_law; k_head; (case hw => w_witness2)
  k_fill
  refine B2.walk (l := PySem.Challenge.rw_betweenfaces_k02_fractions_in_lowest_ter) rfl rfl (fun w h Y => PySem.W.km_in_of Y) ?F
  case F =>
    intro w mg fa h Y KX G hmg
    have TT := PySem.W.km_tabs_of Y
    refine' B2.mk KX G hmg ?u_gC ?u_gCI ?u_gCQ ?u_gCF ?u_gG ?u_z_abs ?u_z_int ?u_z_isinstance ?u_z_bool ?u_z_repr ?u_z_list ?u_z_len ?u_z_range ?u_z_ValueError ?u_A0 ?u_L0 ?u_Q0 ?u_K0 ?u_A1 ?u_L1 ?u_Q1 ?u_K1 ?u_A2 ?u_L2 ?u_Q2 ?u_K2 ?u_A3 ?u_L3 ?u_Q3 ?u_K3 ?u_A4 ?u_L4 ?u_Q4 ?u_K4 ?u_A5 ?u_L5 ?u_Q5 ?u_K5 ?u_A6 ?u_L6 ?u_Q6 ?u_K6 ?u_A7 ?u_L7 ?u_Q7 ?u_K7 ?u_A8 ?u_L8 ?u_Q8 ?u_K8 ?u_A9 ?u_L9 ?u_Q9 ?u_K9 ?u_V9 ?u_W9 ?u_N9 ?u_H9 ?u_T9 ?u_A10 ?u_L10 ?u_Q10 ?u_K10 ?u_V10 ?u_W10 ?u_N10 ?u_H10 ?u_T10 ?u_A11 ?u_L11 ?u_Q11 ?u_K11 ?u_PP ?u_m0 ?u_l0 ?u_lT ?u_q0 ?u_k0 ?u_i0 ?u_m_of ?u_r_of ?u_c_of ?u_f_of ?u_l1 ?u_q1 ?u_k1 ?u_m2 ?u_l2 ?u_q2 ?u_k2 ?u_i2 ?u_m3 ?u_l3 ?u_q3 ?u_k3 ?u_i3 ?u_m4 ?u_l4 ?u_q4 ?u_k4 ?u_i4 ?u_m5 ?u_l5 ?u_q5 ?u_k5 ?u_i5 ?u_m6 ?u_l6 ?u_q6 ?u_k6 ?u_i6 ?u_m7 ?u_l7 ?u_q7 ?u_k7 ?u_i7 ?u_m8 ?u_l8 ?u_q8 ?u_k8 ?u_i8 ?u_m9 ?u_l9 ?u_q9 ?u_k9 ?u_i9 ?u_rb ?u_hb ?u_sb
    (case u_gC => k_is)
    (case u_gCI => k_is)
    (case u_gCQ => k_is)
    (case u_gCF => k_is)
    (case u_gG => k_is)
    (case u_z_abs => k_is)
    (case u_z_int => k_is)
    (case u_z_isinstance => k_is)
    (case u_z_bool => k_is)
    (case u_z_repr => k_is)
    (case u_z_list => k_is)
    (case u_z_len => k_is)
    (case u_z_range => k_is)
    (case u_z_ValueError => k_is)
    (case u_A0 => k_is)
    (case u_L0 => k_is)
    (case u_Q0 => k_is)
    (case u_K0 => k_is)
    (case u_A1 => k_is)
    (case u_L1 => k_is)
    (case u_Q1 => k_is)
    (case u_K1 => k_is)
    (case u_A2 => k_is)
    (case u_L2 => k_is)
    (case u_Q2 => k_is)
    (case u_K2 => k_is)
    (case u_A3 => k_is)
    (case u_L3 => k_is)
    (case u_Q3 => k_is)
    (case u_K3 => k_is)
    (case u_A4 => k_is)
    (case u_L4 => k_is)
    (case u_Q4 => k_is)
    (case u_K4 => k_is)
    (case u_A5 => k_is)
    (case u_L5 => k_is)
    (case u_Q5 => k_is)
    (case u_K5 => k_is)
    (case u_A6 => k_is)
    (case u_L6 => k_is)
    (case u_Q6 => k_is)
    (case u_K6 => k_is)
    (case u_A7 => k_is)
    (case u_L7 => k_is)
    (case u_Q7 => k_is)
    (case u_K7 => k_is)
    (case u_A8 => k_is)
    (case u_L8 => k_is)
    (case u_Q8 => k_is)
    (case u_K8 => k_is)
    (case u_A9 => k_is)
    (case u_L9 => k_is)
    (case u_Q9 => k_is)
    (case u_K9 => k_is)
    (case u_V9 => k_is)
    (case u_W9 => rfl)
    (case u_N9 => kernel_rfl)
    (case u_H9 => kernel_rfl)
    (case u_T9 => exact TT _ (by decide))
    (case u_A10 => k_is)
    (case u_L10 => k_is)
    (case u_Q10 => k_is)
    (case u_K10 => k_is)
    (case u_V10 => k_is)
    (case u_W10 => rfl)
    (case u_N10 => kernel_rfl)
    (case u_H10 => kernel_rfl)
    (case u_T10 => exact TT _ (by decide))
    (case u_A11 => k_is)
    (case u_L11 => k_is)
    (case u_Q11 => k_is)
    (case u_K11 => k_is)
    (case u_PP => decide)
    (case u_m0 => k_is)
    (case u_l0 => k_is)
    (case u_lT => k_is)
    (case u_q0 => k_is)
    (case u_k0 => k_is)
    (case u_i0 => k_is)
    (case u_m_of => k_is)
    (case u_r_of => k_is)
    (case u_c_of => kernel_rfl)
    (case u_f_of => kernel_rfl)
    (case u_l1 => k_is)
    (case u_q1 => k_is)
    (case u_k1 => k_is)
    (case u_m2 => k_is)
    (case u_l2 => k_is)
    (case u_q2 => k_is)
    (case u_k2 => k_is)
    (case u_i2 => k_is)
    (case u_m3 => k_is)
    (case u_l3 => k_is)
    (case u_q3 => k_is)
    (case u_k3 => k_is)
    (case u_i3 => k_is)
    (case u_m4 => k_is)
    (case u_l4 => k_is)
    (case u_q4 => k_is)
    (case u_k4 => k_is)
    (case u_i4 => k_is)
    (case u_m5 => k_is)
    (case u_l5 => k_is)
    (case u_q5 => k_is)
    (case u_k5 => k_is)
    (case u_i5 => k_is)
    (case u_m6 => k_is)
    (case u_l6 => k_is)
    (case u_q6 => k_is)
    (case u_k6 => k_is)
    (case u_i6 => k_is)
    (case u_m7 => k_is)
    (case u_l7 => k_is)
    (case u_q7 => k_is)
    (case u_k7 => k_is)
    (case u_i7 => k_is)
    (case u_m8 => k_is)
    (case u_l8 => k_is)
    (case u_q8 => k_is)
    (case u_k8 => k_is)
    (case u_i8 => k_is)
    (case u_m9 => k_is)
    (case u_l9 => k_is)
    (case u_q9 => k_is)
    (case u_k9 => k_is)
    (case u_i9 => k_is)
    (case u_rb => kernel_rfl)
    (case u_hb => kernel_rfl)
    (case u_sb => kernel_rfl)
