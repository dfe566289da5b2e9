import PyProof.Rows.All
import Wide.All
import OpenK.AllK
import Wide.FinOn
import KE.KExcInit
import KE.KExcMake
import HandS.ForMost
import HandS.ExcInit
import HandS.MakeKwOnly
import HandS.IsInst
import HandS.ExcIs
import HandS.ExcValue
import HandS.ExcOwn
import HandS.ExcField
import HandS.Dict
import HandS.RaiseMore
import PyProof.ReprRoads
import HandS.Steps
import HandS.Codes
import PyProof.InstNe
import KE.KOpsOwn
import HandS.OwnEq
import HandS.MapObj
import HandS.ClsMeth
import PyProof.FactsAll.object
import HandS.Gcd
import HandS.Lambda
import HandS.TryMany
import HandS.WordsExc
import HandS.More
import HandS.Wide
import HandS.Defaults
import PySem.Challenge.RW_betweenfaces_k04_numbers_in_order
import HandS.Text
import KE.IntTextText
import KE.KIntText
import HandS.FStr
import HandS.StrMore
import HandS.Walk
import HandS.Style
import PyProof.ReprNest
import HandS.Set
import HandS.SetFor
import HandS.Strs
import HandS.MakeKw
set_option Elab.async false
set_option linter.all false
set_option maxRecDepth 100000
set_option maxHeartbeats 4000000
/-! Own errors, with an own __init__ that stores or none, over any built-in base, made as values, by place and by name; their fields; isinstance. -/
namespace XO
open PySem PySem.Calls PySem.HandSPX PySem.Builtin PySem.Builtin.ObjectAttr
section
variable {M : Model} {A : Around} {E : Value → Shared → Prop} {hp : Heap} {gs : Array GenState} {dr : Drawn} {tk : Nat} {os : OsState}
variable {nA qA : Str} {C NA : Addr} {bsA tl tlB : List Value} {hd ab : Bool} {snA : List Str} {sbA : List Value} {cl : Option Bool} {ddA : Option Addr} {j0 j1 j2 j3 j5 : Option Value} {B newId initId : String}
theorem chk_new (F : ExcBaseFacts B newId initId tlB) (hT : ∀ Y : String, tl.contains (.type Y) = tlB.contains (.type Y)) {us : List Value} {kw : List (Str × Value)} {Q : Unit → Shared → Prop}
    (lC : hp.get? C = some (excClassObj nA qA C NA bsA tl hd snA sbA ab cl ddA j0 j1 j2 j3 j5 newId)) (q : Q () ⟨hp, gs, dr, tk, os⟩) :
    wpAny M A (checkBuiltinCall newId ⟨.ref C :: us, kw⟩) Q E ⟨hp, gs, dr, tk, os⟩ := by
  have c1 : (Value.ref C :: tl).contains (.type B) = true := by rw [List.contains_cons, hT, F.hasB, Bool.or_true]
  have c2 := F.noStar
  simp only [F.newRow, F.newSplit, F.newKind, checkBuiltinCall]
  repeat (first
    | refine wpAny_loadPart_at lC ?_
    | (refine wpAny_isSubtype_exc lC ?_; rw [c1])
    | refine wpAny_staticBase_exc lC ?_
    | refine wpAny_madeBy_exc lC ?_
    | simp only [bne_self_eq_false, Bool.false_eq_true, if_false]
    | wp_step)
  exact q
end
section
variable {prog : Program} {w : World} {A : Around} {E : Value → Shared → Prop} {R : Result → Shared → Prop} {hp : Heap} {gs : Array GenState} {dr : Drawn} {tk : Nat} {os : OsState}
variable {nA qA : Str} {C NA : Addr} {bsA tl tlB : List Value} {hd ab : Bool} {snA : List Str} {sbA : List Value} {cl : Option Bool} {ddA : Option Addr} {j0 j1 j2 j3 j5 : Option Value} {B newId initId : String}
theorem new_kw (F : ExcBaseFacts B newId initId tlB) (hT : ∀ Y : String, tl.contains (.type Y) = tlB.contains (.type Y)) {us : List Value} {kw : List (Str × Value)}
    (lC : hp.get? C = some (excClassObj nA qA C NA bsA tl hd snA sbA ab cl ddA j0 j1 j2 j3 j5 newId))
    (q : R (.ok (.ret (.ref (hp.objs.size + 1)))) ⟨(hp.push (W.kdv_tup us)).push (excO C hp.objs.size), gs, dr, tk, os⟩) (hl : us.length ≤ sizeLine) :
    codeAny (model prog w) A (.builtin newId ⟨.ref C :: us, kw⟩) R ⟨hp, gs, dr, tk, os⟩ := by
  have c0 := F.ends
  have c1 : (Value.ref C :: tl).contains (.type B) = true := by rw [List.contains_cons, hT, F.hasB, Bool.or_true]
  have c2 : (Value.ref C :: tl).contains (.type "AttributeError") = false := by rw [List.contains_cons, hT, F.noAttr]; rfl
  have c3 : (Value.ref C :: tl).contains (.type "NameError") = false := by rw [List.contains_cons, hT, F.noName]; rfl
  refine codeAny_builtinAt F.entry ?_
  unfold Builtin.«BaseException.__new__»
  refine wpAt_bind ?_
  show wpAt _ _ _ (stack >>= _) _ _ _
  refine wpAt_bind (wpAt_stack fun p1 p2 => wpAt_of_wpAny ?_)
  wp_walk
  refine wpAt_of_wpAny ?_
  rw [F.owner]
  repeat (first
    | with_reducible refine wpAny_madeHere_exc F.canon lC ?_
    | with_reducible refine wpAny_loadPart_at lC ?_
    | (with_reducible refine wpAny_isSubtype_exc lC ?_; first | rw [c1] | rw [c2] | rw [c3])
    | wp_step)
  show R _ _
  rw [Heap.size_push]
  exact q
theorem tcall_kw (F : ExcBaseFacts B newId initId tlB) (hT : ∀ Y : String, tl.contains (.type Y) = tlB.contains (.type Y)) {us : List Value} {kw : List (Str × Value)} {fI : Addr} {Q : Fin → Shared → Prop}
    (lC : hp.get? C = some (excClassObj nA qA C NA bsA tl hd snA sbA ab cl ddA j0 j1 j2 j3 j5 newId))
    (li : W.Looks (model prog w) hp (typeLookup (.ref C) "__init__") (some (.ref fI))) (lb : ∀ self, W.Looks (model prog w) hp (bindSpecial (.ref fI) self) (.ref fI, [self])) (hl : us.length ≤ sizeLine)
    (q : codeAny (model prog w) A (.call (.ref fI) ⟨.ref (hp.objs.size + 1) :: us, kw⟩)
      (fun r s' => match r with | .ok (.ret v) => v = .none ∧ Q (.done (.ret (.ref (hp.objs.size + 1)))) s' | .ok _ => False | .error e => E e s')
      ⟨(hp.push (W.kdv_tup us)).push (excO C hp.objs.size), gs, dr, tk, os⟩) :
    wpAny (model prog w) A (Builtin.«type.__call__» ⟨.ref C :: us, kw⟩) Q E ⟨hp, gs, dr, tk, os⟩ := by
  repeat (first
    | with_reducible refine wpAny_loadPart_at lC ?_
    | with_reducible refine wpAny_madeBy_exc lC ?_
    | wp_step)
  refine codeAny_call_builtin_code (Code.quiet_builtin _ F.quiet) (chk_new F hT lC ?_)
  refine new_kw F hT lC ?_ hl
  show wpAny _ _ _ _ _ _
  have kp : ∀ b o, hp.get? b = some o → ((hp.push (W.kdv_tup us)).push (excO C hp.objs.size)).get? b = some o := fun b o e =>
    Heap.get?_push_of_some _ (Heap.get?_push_of_some _ e)
  have lC1 := kp _ _ lC
  have lE : ((hp.push (W.kdv_tup us)).push (excO C hp.objs.size)).get? (hp.objs.size + 1) = some (excO C hp.objs.size) := by heap_get
  have cC : (Value.ref C :: tl).contains (.ref C) = true := by simp
  have i1 := li.keeps kp
  have b1 := (lb (.ref (hp.objs.size + 1))).keeps kp
  unfold isInstance
  repeat (first
    | with_reducible refine wpAny_loadPart_at lE ?_
    | (with_reducible refine wpAny_isSubtype_exc lC1 ?_; rw [cC])
    | wp_step)
  show wpAny _ _ (typeLookup (.ref C) _) _ _ _
  refine i1.at ?_
  refine wpAny_holding (wpAny_bind (b1.at ?_))
  refine wpAny_bind (wpAny_call (codeAny_mono q fun r s' z => ?_))
  rcases r with e | (v | _ | _ | _) <;> first | exact z | exact z.elim | skip
  obtain ⟨rfl, z⟩ := z
  first
    | exact wpAny_pure (wpAny_pure z)
    | (wp_walk; exact z)
/-- C(..), C an own error class with an own __init__ (fI), keywords among the arguments -/
theorem call_kw (F : ExcBaseFacts B newId initId tlB) (hT : ∀ Y : String, tl.contains (.type Y) = tlB.contains (.type Y)) {us : List Value} {kw : List (Str × Value)} {fI : Addr}
    (lC : hp.get? C = some (excClassObj nA qA C NA bsA tl hd snA sbA ab cl ddA j0 j1 j2 j3 j5 newId))
    (li : W.Looks (model prog w) hp (typeLookup (.ref C) "__init__") (some (.ref fI))) (lb : ∀ self, W.Looks (model prog w) hp (bindSpecial (.ref fI) self) (.ref fI, [self])) (hl : us.length ≤ sizeLine)
    (q : codeAny (model prog w) (A.under (.builtin "type.__call__" ⟨.ref C :: us, kw⟩)) (.call (.ref fI) ⟨.ref (hp.objs.size + 1) :: us, kw⟩) (W.InitBack (hp.objs.size + 1) R)
      ⟨(hp.push (W.kdv_tup us)).push (excO C hp.objs.size), gs, dr, tk, os⟩) :
    codeAny (model prog w) A (.call (.ref C) ⟨us, kw⟩) R ⟨hp, gs, dr, tk, os⟩ := by
  have l1 := tc_lookup
  have l2 := tc_bind (.ref C)
  have tC : (⟨hp, gs, dr, tk, os⟩ : Shared).TypeIs (.ref C) "type" := ⟨_, lC, rfl⟩
  refine codeAny_of_tree ?_
  show wpAny _ _ (callAny (.ref C) _) _ _ _
  repeat (any_goals (first
    | assumption
    | with_reducible refine wpAny_loadPart_at lC ?_
    | wp_step))
  refine ⟨rfl, ?_⟩
  refine codeAny_call_builtin_at (Code.quiet_builtin _ (by decide +kernel)) entry_typeCall (wpAny_check_type_call_sub lC (tcall_kw F hT lC li lb hl ?_))
  refine codeAny_mono q fun r s' z => ?_
  rcases r with e | (v | _ | _ | _) <;> exact z
/-- the first store into an error without a dict -/
theorem osa_new {K : W.Frag} {n : Str} {tn : Tok} {v : Value} {x t0 : Addr} (SF : StoreFacts B tlB "object.__setattr__" "object") (X : K.In hp) (hx : hp.get? x = some (excO C t0)) (ov : W.excOver K C tlB = true) (no : W.takerIn K C n = some none) (hh : W.hasDictIn K C = true)
    (q : ∀ h' tk' dx, (∀ b o, b ≠ x → hp.get? b = some o → h'.get? b = some o) → hp.objs.size ≤ dx → dx ≠ x → h'.get? x = some (W.excObj C t0 (some dx) .none) →
      h'.Ns1 dx (fun y => if y = n then some v else none) → R (.ok (.ret .none)) ⟨h', gs, dr, tk', os⟩) :
    codeAny (model prog w) A (.call (.builtin "object.__setattr__") ⟨[.ref x, .str n tn, v], []⟩) R ⟨hp, gs, dr, tk, os⟩ := by
  have xs : x ≠ hp.objs.size := Nat.ne_of_lt (Heap.lt_size hx)
  refine W.osa_openX (s := ⟨hp, gs, dr, tk, os⟩) (od := none) SF X ⟨hx, rfl, rfl, trivial⟩ ov no fun b => ?_
  obtain ⟨cd, hc, hd'⟩ := W.any_some hh
  refine wpAny_bind (wpAny_pure (wpAny_bind (W.instanceDict_exc (s := ⟨hp, gs, dr, tk, os⟩) hx (W.looks_clsIn X hc) hd' ?_)))
  show wpAny _ _ (storeInDict hp.objs.size (.str n tn) n v) _ _ _
  refine store_in_new ?_ fun h' tk' ns' sb => ?_
  · exact ⟨_, #[], _, (Heap.get?_update_ne _ _ _ _ xs.symm).trans (Heap.get?_push_at rfl rfl), rfl, fun e he => absurd he (by simp), fun _ => rfl⟩
  · have hx1 : (hp.push (W.dictOf [] 0)).get? x = some (excO C t0) := Heap.get?_push_of_some _ hx
    refine q h' tk' hp.objs.size (fun b o hb ho => ?_) (Nat.le_refl _) xs.symm ?_ ns'
    · exact (sb.2 b (Nat.ne_of_lt (Heap.lt_size ho))).trans ((Heap.get?_update_ne _ _ _ _ hb).trans (Heap.get?_push_of_some _ ho))
    · exact (sb.2 x xs).trans (Heap.get?_update_self _ hx1 rfl)
/-- a later store -/
theorem osa_more {K : W.Frag} {n : Str} {tn : Tok} {v : Value} {x t0 dx : Addr} {m0 : Str → Option Value} {nl : List Str} (SF : StoreFacts B tlB "object.__setattr__" "object") (X : K.In hp) (hx : hp.get? x = some (W.excObj C t0 (some dx) .none)) (hns : hp.Ns1 dx m0) (hw : Within m0 nl) (hz : nl.length ≤ 1000)
    (ov : W.excOver K C tlB = true) (no : W.takerIn K C n = some none) (hh : W.hasDictIn K C = true)
    (q : ∀ h' tk', (∀ b o, b ≠ dx → hp.get? b = some o → h'.get? b = some o) → h'.Ns1 dx (fun y => if y = n then some v else m0 y) → R (.ok (.ret .none)) ⟨h', gs, dr, tk', os⟩) :
    codeAny (model prog w) A (.call (.builtin "object.__setattr__") ⟨[.ref x, .str n tn, v], []⟩) R ⟨hp, gs, dr, tk, os⟩ := by
  obtain ⟨oD, _, _, hoD, _, _⟩ := hns.count hw
  refine W.osa_openX (s := ⟨hp, gs, dr, tk, os⟩) (od := some oD) SF X ⟨hx, rfl, rfl, hoD⟩ ov no fun b => ?_
  obtain ⟨cd, hc, hd'⟩ := W.any_some hh
  refine wpAny_bind (wpAny_pure (wpAny_bind (wpAny_bind (wpAny_loadPart hx (wpAny_bind ((W.looks_clsIn X hc).here ?_))))))
  rw [hd']
  refine wpAny_pure (a := some dx) ?_
  refine OEX.store_in_old hns hw hz fun h' tk' ns' sb => ?_
  exact q h' tk' (fun b o hb ho => (sb.2 b hb).trans ho) ns'
end
end XO
set_option maxRecDepth 100000
set_option maxHeartbeats 4000000
namespace XO
open PySem PySem.W PySem.Calls PyProof.Rows PySem.HandSPX
/-! ### the texts of the two kinds of __init__ -/
def a1 (n : Str) (p1 p2 : Pos) : Arguments := { posonlyargs := [], args := [{ arg := "self", annotation := none, pos := p1 }, { arg := n, annotation := none, pos := p2 }], vararg := none, kwonlyargs := [], kw_defaults := [], kwarg := none, defaults := [] }
def b1 (n : Str) (q1 q2 q3 q4 : Pos) : List Stmt := [.Assign [.Attribute (.Name "self" q1) n q2] (.Name n q3) q4]
def s1 (n : Str) : Scope := { kind := .function, names := [(PySem.Str.ofString "self", .local), (n, .local)], isGenerator := false, isCoroutine := false, more := [] }
/-- the fields' names -/
def Nm (n : Str) : Prop := n = "reason" ∨ n = "name" ∨ n = "index" ∨ n = "word"
/-- what the written part says of an error class whose __init__ stores one field -/
structure E1 (K : Frag) (mg : Str → Option Value) (x n : Str) (C fI : Addr) (tlB : List Value) (newId : String) : Prop where
  gC : mg x = some (.ref C)
  nm : Nm n
  em : excInitIn K C tlB newId = true
  ov : excOver K C tlB = true
  hd : hasDictIn K C = true
  sa : findIn K (.ref C) "__setattr__" = some (some (.builtin "object.__setattr__"))
  ga : findIn K (.ref C) "__getattribute__" = some (some (.builtin "BaseException.__getattribute__"))
  gg : findIn K (.ref C) "__getattr__" = some none
  no : takerIn K C n = some none
  nf : findIn K (.ref C) n = some none
  iC : findIn K (.ref C) "__init__" = some (some (.ref fI))
  tC : typeIn K (.ref fI) = some (.type "function")
  kC : keepIn K (.ref C) = true
  exC : subIn K (.ref C) (.type "BaseException") = some true
  fn : ∃ (qn : Str) (oc : Value) (od : Option Addr) (doc pm : Value) (an : Option Addr) (cdv ct : Value) (osl : Array (Option Value)) (p1 p2 q1 q2 q3 q4 : Pos),
    K.lookup fI = some ⟨oc, od, .func (fnOf "__init__" qn (a1 n p1 p2) (b1 n q1 q2 q3 q4) (s1 n) .none .none doc pm an cdv ct), osl⟩ ∧ codeIn K cdv qn = true
/-- the two ways to hand one value in -/
def Gv (n : Str) (v : Value) (us : List Value) (kw : List (Str × Value)) : Prop := (us = [v] ∧ kw = []) ∨ (us = [] ∧ kw = [(n, v)])
structure Made1 (h h' : Heap) (n : Str) (e C d : Addr) (v : Value) : Prop where
  keep : ∀ b o, h.get? b = some o → h'.get? b = some o
  new : h.objs.size ≤ e
  obj : ∃ t0, h'.get? e = some (excObj C t0 (some d) .none)
  dbig : h.objs.size ≤ d
  dne : d ≠ e
  ns : h'.Ns1 d (fun y => if y = n then some v else none)
theorem nameC {M : Model} {s : Shared} {nf : Str} {sc : Scope} {L a : Addr} {cd : Value} {m : Str → Option Value} {y : Str} {pos : Pos} {v : Value} {Q : Value → Shared → Prop} {A : Around} {E : Value → Shared → Prop} (hn : s.heap.Ns L m) (hv : m y = some v) (q : Q v s)
    (hk : sc.kind = .function := by rfl) (hl : (envOfC nf sc L a cd).kindOf y = some .local := by rfl) (hd : (y == ("__debug__" : Str)) = false := by decide) :
    wpAny M A (eval (.Name y pos) (envOfC nf sc L a cd)) Q E s := wpAny_Name (wpAny_loadName_local hk hl hn hv q) hd
section
variable {prog : Program} {w : World} {A : Around} {E : Value → Shared → Prop} {R : Result → Shared → Prop} {s : Shared} {K : Frag} {mg : Str → Option Value} {x n : Str} {C fI : Addr} {B newId initId : String} {tlB : List Value}
theorem init1 (T : E1 K mg x n C fI tlB newId) (SF : StoreFacts B tlB "object.__setattr__" "object") {e t0 : Addr} {v : Value} {us : List Value} {kw : List (Str × Value)} (g : Gv n v us kw) (X : K.In s.heap) (hlim : s.heap.NoLimit) (hx : s.heap.get? e = some (excO C t0)) (hr : A.depth < recursionLimit)
    (q : ∀ h' tk d, (∀ b o, b ≠ e → s.heap.get? b = some o → h'.get? b = some o) → s.heap.objs.size ≤ d → d ≠ e → h'.get? e = some (excObj C t0 (some d) .none) → h'.Ns1 d (fun y => if y = n then some v else none) →
      R (.ok (.ret .none)) { s with heap := h', toks := tk }) :
    codeAny (model prog w) A (.call (.ref fI) ⟨.ref e :: us, kw⟩) R s := by
  obtain ⟨qn, oc, od, doc, pm, an, cdv, ct, osl, p1, p2, q1, q2, q3, q4, ho, hcd⟩ := T.fn
  have hb : BindsTo s (fnOf "__init__" qn (a1 n p1 p2) (b1 n q1 q2 q3 q4) (s1 n) .none .none doc pm an cdv ct) ⟨.ref e :: us, kw⟩ [("self", .ref e), (n, v)] := by
    rcases T.nm with rfl | rfl | rfl | rfl <;> rcases g with ⟨rfl, rfl⟩ | ⟨rfl, rfl⟩ <;> exact BindsTo.of_eq (by first | rfl | with_unfolding_all rfl)
  refine Att.call_fn (binds := [("self", .ref e), (n, v)]) X hlim ho hcd hr hb ?_ (fun s₁ IC => ?_) rfl rfl rfl
  · rcases T.nm with rfl | rfl | rfl | rfl <;> first | rfl | decide | with_unfolding_all rfl
  · obtain ⟨h₁, tk₁, rfl⟩ := IC.toInCall.same
    have k : ∀ b o, s.heap.get? b = some o → h₁.get? b = some o := IC.toInCall.keep
    have hn := IC.toInCall.ns
    have X₁ : K.In h₁ := X.keeps k
    have hx₁ := k _ _ hx
    show wpAny _ _ (execs _ _) _ _ _
    refine wpAny_execs_cons (plainObj_wpAny_Assign_Attribute ?_)
    have kn : (envOfC qn (s1 n) s.heap.objs.size fI cdv).kindOf n = some .local := by
      rcases T.nm with rfl | rfl | rfl | rfl <;> first | rfl | with_unfolding_all rfl
    have ks : (envOfC qn (s1 n) s.heap.objs.size fI cdv).kindOf (Str.ofString "self") = some .local := by
      rcases T.nm with rfl | rfl | rfl | rfl <;> first | rfl | with_unfolding_all rfl
    have dn : (n == ("__debug__" : Str)) = false := by
      rcases T.nm with rfl | rfl | rfl | rfl <;> decide
    have vn : bindL (envOfC qn (s1 n) s.heap.objs.size fI cdv).kindOf [(Str.ofString "self", Value.ref e), (n, v)] (fun _ => none) n = some v := by
      rcases T.nm with rfl | rfl | rfl | rfl <;> first | rfl | with_unfolding_all rfl | kernel_rfl
    have vs : bindL (envOfC qn (s1 n) s.heap.objs.size fI cdv).kindOf [(Str.ofString "self", Value.ref e), (n, v)] (fun _ => none) (Str.ofString "self") = some (.ref e) := by
      rcases T.nm with rfl | rfl | rfl | rfl <;> first | rfl | with_unfolding_all rfl | kernel_rfl
    refine nameC (v := v) hn vn (nameC (v := .ref e) hn vs ?_ rfl ks) rfl kn dn
    refine set_plain X₁ (ox := excO C t0) (od := none) ⟨hx₁, rfl, rfl, trivial⟩ T.sa ?_
    refine osa_new SF X₁ hx₁ T.ov T.no T.hd fun h3 tk3 d k3 big ne hx3 hn3 => ?_
    show wpAny _ _ (execs _ _) _ _ _
    have z : s.heap.objs.size < h₁.objs.size := hn.lt
    exact wpAny_execs_nil (q h3 tk3 d (fun b o hb e => k3 b o hb (k b o e)) (Nat.le_of_lt (Nat.lt_of_lt_of_le z big)) ne hx3 hn3)
theorem made1 (F : ExcBaseFacts B newId initId tlB) (T : E1 K mg x n C fI tlB newId) (SF : StoreFacts B tlB "object.__setattr__" "object") {v : Value} {us : List Value} {kw : List (Str × Value)} (g : Gv n v us kw) (X : K.In s.heap) (hlim : s.heap.NoLimit) (hr : A.depth + 1 < recursionLimit)
    (q : ∀ h' tk e d, Made1 s.heap h' n e C d v → R (.ok (.ret (.ref e))) { s with heap := h', toks := tk }) :
    codeAny (model prog w) A (.call (.ref C) ⟨us, kw⟩) R s := by
  obtain ⟨nA, NA, qA, bsA, tl, hd, snA, sbA, ab, cl, ddA, j0, j1, j2, j3, j5, lC, hT⟩ := excInit_of X T.em
  obtain ⟨hp, gs, dr, tk, os⟩ := s
  have k : ∀ b o, hp.get? b = some o → ((hp.push (kdv_tup us)).push (excO C hp.objs.size)).get? b = some o := fun b o e => Heap.get?_push_of_some _ (Heap.get?_push_of_some _ e)
  have hget : ((hp.push (kdv_tup us)).push (excO C hp.objs.size)).get? (hp.objs.size + 1) = some (excO C hp.objs.size) := by heap_get
  have hl : us.length ≤ sizeLine := by
    rw [sizeLine_eq]
    rcases g with ⟨rfl, _⟩ | ⟨rfl, _⟩ <;> simp
  refine call_kw F hT lC (looks_findIn X T.iC) (fun self => bind_fn X self T.tC) hl ?_
  refine init1 (s := ⟨(hp.push (kdv_tup us)).push (excO C hp.objs.size), gs, dr, tk, os⟩) T SF g (X.keeps k) (hlim.keeps k) hget hr fun h' tk' d k' dn ne hx hns => ?_
  have old : ∀ b o, hp.get? b = some o → h'.get? b = some o := fun b o e => k' b o (Nat.ne_of_lt (Nat.lt_succ_of_lt (Heap.lt_size e))) (k b o e)
  have z : hp.objs.size ≤ d := by
    have y : ((hp.push (kdv_tup us)).push (excO C hp.objs.size)).objs.size ≤ d := dn
    rw [Heap.size_push, Heap.size_push] at y
    omega
  exact ⟨rfl, q h' tk' (hp.objs.size + 1) d ⟨old, Nat.le_succ _, ⟨_, hx⟩, z, ne, hns⟩⟩
end
end XO
set_option maxRecDepth 100000
set_option maxHeartbeats 4000000
namespace XO
open PySem PySem.W PySem.Calls PyProof.Rows PySem.HandSPX
/-! ### the error with two fields -/
def a2 (p1 p2 p3 : Pos) : Arguments := { posonlyargs := [], args := [{ arg := "self", annotation := none, pos := p1 }, { arg := "line", annotation := none, pos := p2 }, { arg := "word", annotation := none, pos := p3 }], vararg := none, kwonlyargs := [], kw_defaults := [], kwarg := none, defaults := [] }
def b2 (q1 q2 q3 q4 r1 r2 r3 r4 : Pos) : List Stmt := [.Assign [.Attribute (.Name "self" q1) "line" q2] (.Name "line" q3) q4, .Assign [.Attribute (.Name "self" r1) "word" r2] (.Name "word" r3) r4]
def s2 : Scope := { kind := .function, names := [(PySem.Str.ofString "self", .local), (PySem.Str.ofString "line", .local), (PySem.Str.ofString "word", .local)], isGenerator := false, isCoroutine := false, more := [] }
structure E2 (K : Frag) (mg : Str → Option Value) (x : Str) (C fI : Addr) (tlB : List Value) (newId : String) : Prop where
  gC : mg x = some (.ref C)
  em : excInitIn K C tlB newId = true
  ov : excOver K C tlB = true
  hd : hasDictIn K C = true
  sa : findIn K (.ref C) "__setattr__" = some (some (.builtin "object.__setattr__"))
  ga : findIn K (.ref C) "__getattribute__" = some (some (.builtin "BaseException.__getattribute__"))
  gg : findIn K (.ref C) "__getattr__" = some none
  noL : takerIn K C "line" = some none
  noW : takerIn K C "word" = some none
  nfL : findIn K (.ref C) "line" = some none
  nfW : findIn K (.ref C) "word" = some none
  iC : findIn K (.ref C) "__init__" = some (some (.ref fI))
  tC : typeIn K (.ref fI) = some (.type "function")
  kC : keepIn K (.ref C) = true
  exC : subIn K (.ref C) (.type "BaseException") = some true
  fn : ∃ (qn : Str) (oc : Value) (od : Option Addr) (doc pm : Value) (an : Option Addr) (cdv ct : Value) (osl : Array (Option Value)) (p1 p2 p3 q1 q2 q3 q4 r1 r2 r3 r4 : Pos),
    K.lookup fI = some ⟨oc, od, .func (fnOf "__init__" qn (a2 p1 p2 p3) (b2 q1 q2 q3 q4 r1 r2 r3 r4) s2 .none .none doc pm an cdv ct), osl⟩ ∧ codeIn K cdv qn = true
def Gv2 (v u : Value) (us : List Value) (kw : List (Str × Value)) : Prop := (us = [v, u] ∧ kw = []) ∨ (us = [] ∧ kw = [(Str.ofString "word", u), (Str.ofString "line", v)])
structure Made2 (h h' : Heap) (e C d : Addr) (v u : Value) : Prop where
  keep : ∀ b o, h.get? b = some o → h'.get? b = some o
  new : h.objs.size ≤ e
  obj : ∃ t0, h'.get? e = some (excObj C t0 (some d) .none)
  dbig : h.objs.size ≤ d
  dne : d ≠ e
  ns : h'.Ns1 d (fun y => if y = "word" then some u else if y = "line" then some v else none)
section
variable {prog : Program} {w : World} {A : Around} {E : Value → Shared → Prop} {R : Result → Shared → Prop} {s : Shared} {K : Frag} {mg : Str → Option Value} {x n : Str} {C fI : Addr} {B newId initId : String} {tlB : List Value}
theorem init2 (T : E2 K mg x C fI tlB newId) (SF : StoreFacts B tlB "object.__setattr__" "object") {e t0 : Addr} {v u : Value} {us : List Value} {kw : List (Str × Value)} (g : Gv2 v u us kw) (X : K.In s.heap) (hlim : s.heap.NoLimit) (hx : s.heap.get? e = some (excO C t0)) (hnx : K.lookup e = none) (hr : A.depth < recursionLimit)
    (q : ∀ h' tk d, (∀ b o, b ≠ e → s.heap.get? b = some o → h'.get? b = some o) → s.heap.objs.size ≤ d → d ≠ e → h'.get? e = some (excObj C t0 (some d) .none) → h'.Ns1 d (fun y => if y = "word" then some u else if y = "line" then some v else none) →
      R (.ok (.ret .none)) { s with heap := h', toks := tk }) :
    codeAny (model prog w) A (.call (.ref fI) ⟨.ref e :: us, kw⟩) R s := by
  obtain ⟨qn, oc, od, doc, pm, an, cdv, ct, osl, p1, p2, p3, q1, q2, q3, q4, r1, r2, r3, r4, ho, hcd⟩ := T.fn
  have hb : BindsTo s (fnOf "__init__" qn (a2 p1 p2 p3) (b2 q1 q2 q3 q4 r1 r2 r3 r4) s2 .none .none doc pm an cdv ct) ⟨.ref e :: us, kw⟩ [("self", .ref e), ("line", v), ("word", u)] := by
    rcases g with ⟨rfl, rfl⟩ | ⟨rfl, rfl⟩ <;> exact BindsTo.of_eq (by first | rfl | with_unfolding_all rfl)
  refine Att.call_fn (binds := [("self", .ref e), ("line", v), ("word", u)]) X hlim ho hcd hr hb (by first | rfl | decide | with_unfolding_all rfl) (fun s₁ IC => ?_) rfl rfl rfl
  obtain ⟨h₁, tk₁, rfl⟩ := IC.toInCall.same
  have k : ∀ b o, s.heap.get? b = some o → h₁.get? b = some o := IC.toInCall.keep
  have hn := IC.toInCall.ns
  have X₁ : K.In h₁ := X.keeps k
  have hx₁ := k _ _ hx
  have z : s.heap.objs.size < h₁.objs.size := hn.lt
  have ze : s.heap.objs.size ≠ e := Nat.ne_of_gt (Heap.lt_size hx)
  show wpAny _ _ (execs _ _) _ _ _
  refine wpAny_execs_cons (plainObj_wpAny_Assign_Attribute ?_)
  refine nameC (v := v) hn (by first | rfl | with_unfolding_all rfl | kernel_rfl) (nameC (v := .ref e) hn (by first | rfl | with_unfolding_all rfl | kernel_rfl) ?_)
  refine set_plain X₁ (ox := excO C t0) (od := none) ⟨hx₁, rfl, rfl, trivial⟩ T.sa ?_
  refine osa_new SF X₁ hx₁ T.ov T.noL T.hd fun h3 tk3 d k3 big ne hx3 hn3 => ?_
  have hn' : h3.Ns s.heap.objs.size _ := hn.at fun o e' => k3 _ o ze e'
  show wpAny _ _ (execs _ _) _ _ _
  refine wpAny_execs_cons (plainObj_wpAny_Assign_Attribute ?_)
  refine nameC (v := u) hn' (by first | rfl | with_unfolding_all rfl | kernel_rfl) (nameC (v := .ref e) hn' (by first | rfl | with_unfolding_all rfl | kernel_rfl) ?_)
  obtain ⟨oD, _, _, hoD, _, _⟩ := hn3.count (Within.cons "line" v Within.nil)
  have X₃ : K.In h3 := fun b o e' => k3 b o (fun z' => by rw [z', hnx] at e'; cases e') (k b o (X b o e'))
  refine set_plain X₃ (ox := excObj C t0 (some d) .none) (od := some oD) ⟨hx3, rfl, rfl, hoD⟩ T.sa ?_
  refine osa_more SF X₃ hx3 hn3 (Within.cons "line" v Within.nil) (by decide) T.ov T.noW T.hd fun h4 tk4 k4 hn4 => ?_
  show wpAny _ _ (execs _ _) _ _ _
  refine wpAny_execs_nil (q h4 tk4 d (fun b o hb e' => k4 b o (Nat.ne_of_lt (Nat.lt_of_lt_of_le (Heap.lt_size (k b o e')) big)) (k3 b o hb (k b o e'))) (Nat.le_of_lt (Nat.lt_of_lt_of_le z big)) ne (k4 e _ ne.symm hx3) hn4)
theorem made2 (F : ExcBaseFacts B newId initId tlB) (T : E2 K mg x C fI tlB newId) (SF : StoreFacts B tlB "object.__setattr__" "object") {v u : Value} {us : List Value} {kw : List (Str × Value)} (g : Gv2 v u us kw) (X : K.In s.heap) (hlim : s.heap.NoLimit) (hr : A.depth + 1 < recursionLimit)
    (q : ∀ h' tk e d, Made2 s.heap h' e C d v u → R (.ok (.ret (.ref e))) { s with heap := h', toks := tk }) :
    codeAny (model prog w) A (.call (.ref C) ⟨us, kw⟩) R s := by
  obtain ⟨nA, NA, qA, bsA, tl, hd, snA, sbA, ab, cl, ddA, j0, j1, j2, j3, j5, lC, hT⟩ := excInit_of X T.em
  obtain ⟨hp, gs, dr, tk, os⟩ := s
  have k : ∀ b o, hp.get? b = some o → ((hp.push (kdv_tup us)).push (excO C hp.objs.size)).get? b = some o := fun b o e => Heap.get?_push_of_some _ (Heap.get?_push_of_some _ e)
  have hget : ((hp.push (kdv_tup us)).push (excO C hp.objs.size)).get? (hp.objs.size + 1) = some (excO C hp.objs.size) := by heap_get
  have hl : us.length ≤ sizeLine := by
    rw [sizeLine_eq]
    rcases g with ⟨rfl, _⟩ | ⟨rfl, _⟩ <;> simp
  have hnx : K.lookup (hp.objs.size + 1) = none := by
    cases e : K.lookup (hp.objs.size + 1) with
    | none => rfl
    | some o =>
      have y : hp.get? (hp.objs.size + 1) = some o := X _ _ e
      exact absurd (Nat.lt_of_succ_lt (Heap.lt_size y)) (Nat.lt_irrefl _)
  refine call_kw F hT lC (looks_findIn X T.iC) (fun self => bind_fn X self T.tC) hl ?_
  refine init2 (s := ⟨(hp.push (kdv_tup us)).push (excO C hp.objs.size), gs, dr, tk, os⟩) T SF g (X.keeps k) (hlim.keeps k) hget hnx hr fun h' tk' d k' dn ne hx hns => ?_
  have old : ∀ b o, hp.get? b = some o → h'.get? b = some o := fun b o e => k' b o (Nat.ne_of_lt (Nat.lt_succ_of_lt (Heap.lt_size e))) (k b o e)
  have z : hp.objs.size ≤ d := by
    have y : ((hp.push (kdv_tup us)).push (excO C hp.objs.size)).objs.size ≤ d := dn
    rw [Heap.size_push, Heap.size_push] at y
    omega
  exact ⟨rfl, q h' tk' (hp.objs.size + 1) d ⟨old, Nat.le_succ _, ⟨_, hx⟩, z, ne, hns⟩⟩
end
/-! ### isinstance: what an error's class says -/
structure EI (K : Frag) (D : Addr) : Prop where
  ga : findIn K (.ref D) "__getattribute__" = some (some (.builtin "BaseException.__getattribute__"))
  gg : findIn K (.ref D) "__getattr__" = some none
  ex : subIn K (.ref D) (.type "BaseException") = some true
  hd : hasDictIn K D = true
  cl : findIn K (.ref D) "__class__" = some (some (.builtin "object.__class__"))
  sp : specialIn K (.builtin "object.__class__") "__get__" = some (some (.builtin "getset_descriptor.__get__"))
  tk : takesIn K (.builtin "object.__class__") = some true
  mr : mroIn K D (.type "object") = some true
section
variable {prog : Program} {w : World} {A : Around} {E : Value → Shared → Prop} {s : Shared} {K : Frag} {x D : Addr} {ox : Obj} {od : Option Obj}
theorem EI.find (T : EI K D) : findObj K D od "__class__" = some (.bind (.builtin "getset_descriptor.__get__") (.builtin "object.__class__")) := by
  obtain ⟨cd, hc, _⟩ := any_some T.hd
  unfold findObj
  rw [hc, Option.bind_some, T.cl, Option.bind_some]
  simp [T.sp, T.tk]
/-- object.__class__ by the exceptions' own __getattribute__ -/
theorem EI.told (T : EI K D) {Q : Value → Shared → Prop} {t : Tok} (X : K.In s.heap) (I : InstAt s.heap x ox D od) (q : Q (.ref D) s) : wpAny (model prog w) A (call (.builtin "BaseException.__getattribute__") [.ref x, .str "__class__" t]) Q E s := by
  have ty := I.type (M := model prog w)
  have err : Looks (model prog w) s.heap (isInstance (.ref x) (.type "BaseException")) true := ty.andThen (looks_subIn X T.ex)
  have fd := looks_find (M := model prog w) X I T.find
  have S := PySem.F.excAttr_ValueError.ga
  obtain ⟨hp, gs, dr, tk, os⟩ := s
  refine wpAny_call (codeAny_call_builtin S.plain PySem.F.entry_bexc_ga ?_)
  refine check_slot (i := "BaseException.__getattribute__") (owner := "BaseException") (n := "__getattribute__") (self := .ref x) (rest := [.str "__class__" t]) (kw := []) (by decide +kernel) (by decide +kernel) err (PySem.F.args_bexc_ga (.ref x) (.str "__class__" t)) ?_
  unfold Builtin.«object.__getattribute__»
  have two : slotArgs "__getattribute__" 1 ⟨[.ref x, .str "__class__" t], []⟩ = pure (Value.ref x, [Value.str "__class__" t]) := by simp only [slotArgs]; rfl
  refine wpAny_bind (wpAny_of_eq two ?_)
  refine wpAny_bind (wpAny_pure ?_)
  refine wpAny_bind (ty.at ?_)
  refine wpAny_bind (fd.at ?_)
  have get : wpAny (model prog w) (A.under (.builtin "BaseException.__getattribute__" ⟨[.ref x, .str "__class__" t], []⟩)) (call (.builtin "getset_descriptor.__get__") [.builtin "object.__class__", .ref x, .ref D]) (fun v s' => v = .ref D ∧ s' = ⟨hp, gs, dr, tk, os⟩) E ⟨hp, gs, dr, tk, os⟩ :=
    wpAny_call (class_get (s := ⟨hp, gs, dr, tk, os⟩) (ox := ox) (od := od) X I T.mr ⟨rfl, rfl⟩)
  show wpAny _ _ (holding [Value.builtin "object.__class__"] (call (.builtin "getset_descriptor.__get__") _) >>= ret) _ _ _
  refine wpAny_bind (wpAny_holding (wpAny_mono get (fun v s' z => ?_) fun _ _ z => z))
  obtain ⟨rfl, rfl⟩ := z
  exact wpAny_pure q
theorem EI.ask (T : EI K D) {Q : Option Value → Shared → Prop} (X : K.In s.heap) (I : InstAt s.heap x ox D od) (q : Q (some (.ref D)) { s with toks := s.toks + 1 }) : wpAny (model prog w) A (getAttr? (.ref x) "__class__") Q E s := by
  obtain ⟨hp, gs, dr, t, os⟩ := s
  have ty := I.type (M := model prog w)
  have ga := looks_findIn (M := model prog w) X T.ga
  have gg := looks_findIn (M := model prog w) X T.gg
  have notObj : (Value.builtin "BaseException.__getattribute__" == Value.builtin "object.__getattribute__") = false := by decide +kernel
  have heapD : onTheHeap (Value.ref D) = true := rfl
  have heapB : onTheHeap (Value.builtin "BaseException.__getattribute__") = false := rfl
  have no1 : (onTheHeap (Value.ref D) && (Value.builtin "BaseException.__getattribute__" == Value.builtin "object.__getattribute__")) = false := by rw [notObj, Bool.and_false]
  have no2 : ∀ b : Bool, (b && onTheHeap (Value.builtin "BaseException.__getattribute__")) = false := fun b => by rw [heapB, Bool.and_false]
  unfold getAttr? getAttrBy? getAttrBy
  refine wpAny_bind (wpAny_mkText (wpAny_bind (wpAny_attempt (wpAny_holding (wpAny_bind (ty.at (wpAny_bind (ga.at ?_))))))))
  show wpAny _ _ (ite ((onTheHeap (Value.ref D) && (Value.builtin "BaseException.__getattribute__" == Value.builtin "object.__getattribute__")) = true) _ _) _ _ _
  rw [no1]
  simp only [Bool.false_eq_true, if_false]
  unfold getAttrByItsOwn hookBefore
  rw [if_pos heapD]
  refine wpAny_bind (gg.at (wpAny_bind (wpAny_attempt (wpAny_holding ?_))))
  unfold callGetattribute
  rw [no2]
  simp only [Bool.false_eq_true, if_false]
  unfold boundAndCalled
  rw [PySem.F.excAttr_ValueError.ga.bind (.ref x)]
  refine wpAny_bind (wpAny_pure ?_)
  refine EI.told (s := ⟨hp, gs, dr, t + 1, os⟩) T X I ?_
  show wpAny _ _ (handedOut (.ref D)) _ _ _
  rw [handedOut_of (v := .ref D) rfl]
  first
    | exact wpAny_pure q
    | exact wpAny_pure (wpAny_pure q)
    | exact wpAny_pure (wpAny_bind (wpAny_pure (wpAny_pure q)))
theorem EI.kit (T : EI K D) : KitX K (.ref x) (.ref D) (fun h => ∃ ox od, InstAt h x ox D od) where
  ty := fun _ _ _ ⟨_, _, I⟩ => I.type
  it := fun _ _ X _ => by
    obtain ⟨cdD, hc, _⟩ := any_some T.hd
    unfold clsIn at hc
    split at hc
    · rename_i c' d' cd' sl' ho
      intro A' Q' E' s' k q
      unfold isType loadHead
      exact wpAny_bind (wpAny_loadPart (k _ _ (X _ _ ho)) (wpAny_pure q))
    · cases hc
  ne := fun h tp dd its n sl X htp => by
    obtain ⟨cdD, hc, _⟩ := any_some T.hd
    refine Bool.eq_false_iff.mpr fun q => ?_
    have e : D = tp := Value.ref.inj (beq_iff_eq.mp q)
    subst e
    unfold clsIn at hc
    split at hc
    · rename_i c' d' cd' sl' ho
      have z := (X _ _ ho).symm.trans htp
      cases z
    · cases hc
  ca := fun X ⟨_, _, I⟩ k => T.ask X I k
end
end XO
set_option maxRecDepth 100000
set_option maxHeartbeats 4000000
namespace XO
open PySem PySem.Spec PyProof.Rows L2
section
variable {X : Cx} {x n : Str} {C fI : Addr} {B newId initId : String} {tlB : List Value} {e : Expr} {te : TE} {kws : List Keyword} {tk : TA} {p pos : Pos}
/-- two new objects at once -/
theorem laid2 {pins : List (Addr × Obj)} {σ : L2.St} {H : Hp} {s : Shared} {h' : Heap} {d a : Addr} {u o : HO} {t' : Nat} (I : Inv X pins σ H s) (k : ∀ b w, s.heap.get? b = some w → h'.get? b = some w) (hd : s.heap.objs.size ≤ d) (ha : s.heap.objs.size ≤ a) (ne : d ≠ a)
    (ou : ∀ G : Heap, (∀ w, h'.get? d = some w → G.get? d = some w) → ObjOk X.prog X.w (upd H d u) G d u) (oo : ObjOk X.prog X.w (upd (upd H d u) a o) h' a o) : Inv X pins σ (upd (upd H d u) a o) { s with heap := h', toks := t' } := by
  obtain ⟨G, g1, g2⟩ := restrict h' fun b => decide (b ≠ a)
  have gk : ∀ b, b ≠ a → G.get? b = h'.get? b := fun b hb => g1 b (decide_eq_true hb)
  have ga : G.get? a = none := g2 a (by simp)
  have lt : ∀ b w, s.heap.get? b = some w → b ≠ a := fun b w q => Nat.ne_of_lt (Nat.lt_of_lt_of_le (Heap.lt_size q) ha)
  have J : Inv X pins σ (upd H d u) ⟨G, s.gens, s.drawn, t', s.os⟩ := I.laid (t' := t') (fun b w q => (gk b (lt b w q)).trans (k b w q)) hd (ou G fun w q => (gk d ne).trans q)
  have na : (upd H d u) a = none := by
    rw [upd_ne ne.symm]
    exact I.hok.fresh ha
  exact J.laidN (t' := t') (fun b w q => by
    by_cases hb : b = a
    · have z : G.get? b = some w := q
      rw [hb, ga] at z
      cases z
    · exact (gk b hb).symm.trans q) ga na oo
theorem made1_inv {pins : List (Addr × Obj)} {σ : L2.St} {H : Hp} {s : Shared} {h' : Heap} {d a : Addr} {v : V} {u : Value} {t' : Nat} (I : Inv X pins σ H s) (r : RelV v u) (M : Made1 s.heap h' n a C d u) :
    Inv X pins σ (upd (upd H d (exd d [(n, v)])) a (exo a C (some d))) { s with heap := h', toks := t' } := by
  obtain ⟨t0, ho⟩ := M.obj
  exact laid2 I M.keep M.dbig M.new M.dne (fun G g => exd_ok (M.ns.at fun w q => g w q) (relO_put (fs := []) r fun _ => True.intro)) (exo_ok ho)
theorem made2_inv {pins : List (Addr × Obj)} {σ : L2.St} {H : Hp} {s : Shared} {h' : Heap} {d a : Addr} {v y : V} {u z : Value} {t' : Nat} (I : Inv X pins σ H s) (r : RelV v u) (ry : RelV y z) (M : Made2 s.heap h' a C d u z) :
    Inv X pins σ (upd (upd H d (exd d [("word", y), ("line", v)])) a (exo a C (some d))) { s with heap := h', toks := t' } := by
  obtain ⟨t0, ho⟩ := M.obj
  exact laid2 I M.keep M.dbig M.new M.dne (fun G g => exd_ok (M.ns.at fun w q => g w q) (relO_put (fs := [("line", v)]) ry (relO_put (fs := []) r fun _ => True.intro))) (exo_ok ho)
/-- C(e) or C(n=e), the error's field named n -/
def tE1 (C : Addr) (n : Str) (ta : TA) : TE := fun σ H Q => ta σ H fun vs H1 => ∃ v, vs = [v] ∧ ∀ d a, H1 d = none → H1 a = none → d ≠ a → Q (.ref a) (upd (upd H1 d (exd d [(n, v)])) a (exo a C (some d)))
/-- C(line, word) -/
def tE2 (C : Addr) (ta : TA) : TE := fun σ H Q => ta σ H fun vs H1 => ∃ v u, vs = [v, u] ∧ ∀ d a, H1 d = none → H1 a = none → d ≠ a → Q (.ref a) (upd (upd H1 d (exd d [("word", u), ("line", v)])) a (exo a C (some d)))
/-- C(word=.., line=..) -/
def tE2k (C : Addr) (ta : TA) : TE := fun σ H Q => ta σ H fun vs H1 => ∃ v u, vs = [u, v] ∧ ∀ d a, H1 d = none → H1 a = none → d ≠ a → Q (.ref a) (upd (upd H1 d (exd d [("word", u), ("line", v)])) a (exo a C (some d)))
/-- C(), an error without fields -/
def tE0 (C : Addr) : TE := fun _ H Q => ∀ a, H a = none → Q (.ref a) (upd H a (exo a C none))
theorem pe_e1 {ta : TA} (F : ExcBaseFacts B newId initId tlB) (SF : StoreFacts B tlB "object.__setattr__" "object") (T : E1 X.K X.mg x n C fI tlB newId) (hr : Room 0 X.A) (hg : Gl X x) (ha : PA X (e :: []) ta)
    (hdb : (x == ("__debug__" : Str)) = false := by decide) (hs : starEach (e :: []) X.env = (false, eval e X.env) :: starEach [] X.env := by rfl) (hpl : (backTo pos (starEach [] X.env)).any (·.1) = false := by rfl) :
    PE X (.Call (.Name x p) [e] [] pos) (tE1 C n ta) := by
  refine ⟨fun pins s σ H Q I h => ?_⟩
  refine wpAny_Call_Name_kw (ld_glob I hg T.gC ?_ hdb)
  refine PySem.W.callWith_K (h₀ := X.base) I.ok.mod.kin T.kC (thn (ha.run pos pins s σ H _ I h) fun us s1 hh => ?_) hs hpl
  obtain ⟨vs, H1, I1, r1, v, rfl, q1⟩ := hh
  refine ⟨I1.kIn, ?_⟩
  obtain ⟨u, rfl, ru⟩ := vals1 r1
  show wpAny _ _ (call (.ref C) [u]) _ _ _
  refine wpAny_call (made1 F T SF (.inl ⟨rfl, rfl⟩) I1.kIn I1.nolimit (by have := hr.dp; omega) fun h' tk' a d M => ?_)
  exact ⟨.ref a, _, made1_inv I1 ru M, rfl, q1 d a (I1.hok.fresh M.dbig) (I1.hok.fresh M.new) M.dne⟩
theorem pe_e1k {ta : TA} (F : ExcBaseFacts B newId initId tlB) (SF : StoreFacts B tlB "object.__setattr__" "object") (T : E1 X.K X.mg x n C fI tlB newId) (hr : Room 0 X.A) (hg : Gl X x) (hk : PK X kws ta)
    (hks : (backToKw pos (keywordEach kws X.env)).filterMap (·.1) = [n] := by rfl) (hall : (backToKw pos (keywordEach kws X.env)).all (·.1.isSome) = true := by rfl) (hdb : (x == ("__debug__" : Str)) = false := by decide)
    (hpl : ((backTo pos (starEach [] X.env)).any (·.1) || (backToKw pos (keywordEach kws X.env)).any (·.1.isNone)) = false := by rfl) :
    PE X (.Call (.Name x p) [] kws pos) (tE1 C n ta) := by
  refine ⟨fun pins s σ H Q I h => ?_⟩
  refine wpAny_Call_Name_kw (ld_glob I hg T.gC ?_ hdb)
  refine PySem.W.callWith_KW0 (h₀ := X.base) I.ok.mod.kin T.kC hall ?_ hpl
  refine thn (hk.run pos pins s σ H _ I h) fun ws s2 ⟨vs, H1, I1, r1, v, e', q1⟩ => ⟨I1.kIn, ?_⟩
  subst e'
  obtain ⟨u, rfl, ru⟩ := vals1 r1
  rw [hks]
  show wpAny _ _ (call (.ref C) [] [(n, u)]) _ _ _
  refine wpAny_call (made1 F T SF (.inr ⟨rfl, rfl⟩) I1.kIn I1.nolimit (by have := hr.dp; omega) fun h' tk' a d M => ?_)
  exact ⟨.ref a, _, made1_inv I1 ru M, rfl, q1 d a (I1.hok.fresh M.dbig) (I1.hok.fresh M.new) M.dne⟩
theorem pe_e2 {ta : TA} {f : Expr} (F : ExcBaseFacts B newId initId tlB) (SF : StoreFacts B tlB "object.__setattr__" "object") (T : E2 X.K X.mg x C fI tlB newId) (hr : Room 0 X.A) (hg : Gl X x) (ha : PA X (e :: [f]) ta)
    (hdb : (x == ("__debug__" : Str)) = false := by decide) (hs : starEach (e :: [f]) X.env = (false, eval e X.env) :: starEach [f] X.env := by rfl) (hpl : (backTo pos (starEach [f] X.env)).any (·.1) = false := by rfl) :
    PE X (.Call (.Name x p) [e, f] [] pos) (tE2 C ta) := by
  refine ⟨fun pins s σ H Q I h => ?_⟩
  refine wpAny_Call_Name_kw (ld_glob I hg T.gC ?_ hdb)
  refine PySem.W.callWith_K (h₀ := X.base) I.ok.mod.kin T.kC (thn (ha.run pos pins s σ H _ I h) fun us s1 hh => ?_) hs hpl
  obtain ⟨vs, H1, I1, r1, v, y, rfl, q1⟩ := hh
  refine ⟨I1.kIn, ?_⟩
  obtain ⟨u, z, rfl, ru, rz⟩ := vals2 r1
  show wpAny _ _ (call (.ref C) [u, z]) _ _ _
  refine wpAny_call (made2 F T SF (.inl ⟨rfl, rfl⟩) I1.kIn I1.nolimit (by have := hr.dp; omega) fun h' tk' a d M => ?_)
  exact ⟨.ref a, _, made2_inv I1 ru rz M, rfl, q1 d a (I1.hok.fresh M.dbig) (I1.hok.fresh M.new) M.dne⟩
theorem pe_e2k {ta : TA} (F : ExcBaseFacts B newId initId tlB) (SF : StoreFacts B tlB "object.__setattr__" "object") (T : E2 X.K X.mg x C fI tlB newId) (hr : Room 0 X.A) (hg : Gl X x) (hk : PK X kws ta)
    (hks : (backToKw pos (keywordEach kws X.env)).filterMap (·.1) = [PySem.Str.ofString "word", PySem.Str.ofString "line"] := by rfl) (hall : (backToKw pos (keywordEach kws X.env)).all (·.1.isSome) = true := by rfl) (hdb : (x == ("__debug__" : Str)) = false := by decide)
    (hpl : ((backTo pos (starEach [] X.env)).any (·.1) || (backToKw pos (keywordEach kws X.env)).any (·.1.isNone)) = false := by rfl) :
    PE X (.Call (.Name x p) [] kws pos) (tE2k C ta) := by
  refine ⟨fun pins s σ H Q I h => ?_⟩
  refine wpAny_Call_Name_kw (ld_glob I hg T.gC ?_ hdb)
  refine PySem.W.callWith_KW0 (h₀ := X.base) I.ok.mod.kin T.kC hall ?_ hpl
  refine thn (hk.run pos pins s σ H _ I h) fun ws s2 ⟨vs, H1, I1, r1, v, y, e', q1⟩ => ⟨I1.kIn, ?_⟩
  subst e'
  obtain ⟨z, u, rfl, rz, ru⟩ := vals2 r1
  rw [hks]
  show wpAny _ _ (call (.ref C) [] [(PySem.Str.ofString "word", z), (PySem.Str.ofString "line", u)]) _ _ _
  refine wpAny_call (made2 F T SF (.inr ⟨rfl, rfl⟩) I1.kIn I1.nolimit (by have := hr.dp; omega) fun h' tk' a d M => ?_)
  exact ⟨.ref a, _, made2_inv I1 ru rz M, rfl, q1 d a (I1.hok.fresh M.dbig) (I1.hok.fresh M.new) M.dne⟩
theorem pe_e0 (F : ExcBaseFacts B newId initId tlB) (q : PySem.W.excIn X.K C tlB newId = true) (gC : X.mg x = some (.ref C)) (kC : PySem.W.keepIn X.K (.ref C) = true) (hg : Gl X x) (hdb : (x == ("__debug__" : Str)) = false := by decide) :
    PE X (.Call (.Name x p) [] [] pos) (tE0 C) := by
  refine ⟨fun pins s σ H Q I h => ?_⟩
  refine wpAny_Call_Name_kw (ld_glob I hg gC ?_ hdb)
  refine PySem.W.callWith_K0 I.kIn kC ?_
  show wpAny _ _ (call (.ref C) []) _ _ _
  obtain ⟨bm, N, nA, qA, bsA, hdA, snA, sbA, ab, cl, dd, j0, j1, j2, j3, j5, mN, hC, hN, hni, T⟩ := exc_obj I.kIn q
  refine wpAny_call_exc_subT F T hC hN hni (fun h' a hm => ?_) (by show 0 ≤ sizeLine; rw [sizeLine_eq]; omega)
  have hn : H a = none := I.hok.gone hm.new
  obtain ⟨t, ht, _, _⟩ := hm.there
  exact ⟨.ref a, upd H a (exo a C none), I.laidN hm.keeps hm.new hn (exo_ok ht), rfl, h a hn⟩
end
/-! ### a field read -/
structure EF (K : PySem.W.Frag) (C : Addr) (f : Str) : Prop where
  ga : PySem.W.findIn K (.ref C) "__getattribute__" = some (some (.builtin "BaseException.__getattribute__"))
  gg : PySem.W.findIn K (.ref C) "__getattr__" = some none
  ex : PySem.W.subIn K (.ref C) (.type "BaseException") = some true
  hd : PySem.W.hasDictIn K C = true
  no : PySem.W.findIn K (.ref C) f = some none
theorem E1.ef {K : PySem.W.Frag} {mg : Str → Option Value} {x n : Str} {C fI : Addr} {tlB : List Value} {newId : String} (T : E1 K mg x n C fI tlB newId) : EF K C n := ⟨T.ga, T.gg, T.exC, T.hd, T.nf⟩
def tEf (K : PySem.W.Frag) (te : TE) (f : Str) : TE := fun σ H Q => te σ H fun y H1 => ∃ (a C d : Addr) (fs : List (Str × V)) (v : V), y = .ref a ∧ H1 a = some (exo a C (some d)) ∧ H1 d = some (exd d fs) ∧ EF K C f ∧ fs.lookup f = some v ∧ Q v H1
section
variable {X : Cx} {e : Expr} {te : TE} {pos : Pos} {f : Str}
theorem pe_ef (he : PE X e te) (hb : attributeBase e f X.env (eval e X.env) = eval e X.env := by rfl) : PE X (.Attribute e f pos) (tEf X.K te f) := by
  refine ⟨fun pins s σ H Q I h => ?_⟩
  refine attr_of hb (thn (he.run pins s σ H _ I h) fun u s1 hh => ?_)
  obtain ⟨y, H1, I1, ry, a, C, d, fs, v, rfl, ea, ed, T, l, q⟩ := hh
  obtain rfl : u = Value.ref a := ry
  obtain ⟨t1, ho⟩ := exo_at I1.hok ea
  obtain ⟨mA, hns, rel⟩ := exd_at I1.hok ed
  obtain ⟨od, hod, hl⟩ := lookIn_ns hns
  obtain ⟨z, hz, rz⟩ := RelO.some_of (v := v) (o := mA f) (by rw [← l]; exact rel f)
  have J : PySem.W.InstAt s1.heap a ({ cls := .ref C, dict := some d, data := .fields #[.ref t1, .none, .none, .none, .bool false, .none] } : Obj) C (some od) := ⟨ho, rfl, rfl, hod⟩
  exact HandSPX.exc_get I1.kIn J T.ga T.gg T.ex (PySem.W.findObj_own T.hd T.no rfl (by rw [hl, hz])) (handed_of rz) ⟨v, H1, I1.tok _, rz, q⟩
/-- isinstance(a, c), a an error object -/
def rIsX (K : PySem.W.Frag) : List V → Hp → VK → Prop := fun xs H Q => ∃ (a D : Addr) (d : Option Addr) (c : V) (cv : Value) (b : Bool), xs = [.ref a, c] ∧ H a = some (exo a D d) ∧ (∀ d', d = some d' → ∃ fs, H d' = some (exd d' fs)) ∧ EI K D ∧ ClsV c cv ∧ PySem.W.kitOne K (.ref D) cv = some b ∧ Q (.bl b) H
theorem call_isX : CallR X (.builtin "isinstance") (rIsX X.K) := by
  intro pins s σ H xs us Q I r h
  obtain ⟨a, D, d, c, cv, b, rfl, ho, hd, T, k, e, q⟩ := h
  obtain ⟨u1, u2, rfl, r1, r2⟩ := vals2 r
  have e2 := k.eq r2
  subst e2
  cases (show u1 = Value.ref a from r1)
  obtain ⟨t1, h1⟩ := exo_at I.hok ho
  have J : ∃ ox od, PySem.W.InstAt s.heap a ox D od := by
    cases d with
    | none => exact ⟨_, none, h1, rfl, rfl, trivial⟩
    | some d' =>
      obtain ⟨fs, e'⟩ := hd d' rfl
      obtain ⟨mA, hns, _⟩ := exd_at I.hok e'
      obtain ⟨od, hod, _⟩ := lookIn_ns hns
      exact ⟨_, some od, h1, rfl, rfl, hod⟩
  exact PySem.W.kia_one T.kit I.kIn J e (fun z => nomatch z) fun tk => ⟨.bl b, H, I.tok tk, rfl, q⟩
end
end XO
set_option maxRecDepth 100000
set_option maxHeartbeats 4000000
namespace XO
open PySem PySem.Spec PyProof.Rows L2
/-! ### data that repr shows: as in Dp, and dicts of one text key -/
mutual
inductive RD (H : Hp) : V → PyData → Prop
  | non : RD H .non .none
  | bl (b : Bool) : RD H (.bl b) (.bool b)
  | int (i : Int) : RD H (.int i) (.int i)
  | str (x : Str) : RD H (.str x) (.str x)
  | lst {a : Addr} {xs : List V} {ds : List PyData} : H a = some (.lst xs) → a ≠ sysModules → RDs H xs ds → RD H (.ref a) (.list ds)
  | tup {a : Addr} {xs : List V} {ds : List PyData} : H a = some (.tup xs) → RDs H xs ds → RD H (.ref a) (.tuple ds)
  | dic {a : Addr} {x : Str} {i : Int} : H a = some (.dK [(Sum.inr x, .int i)]) → RD H (.ref a) (.dict [(.str x, .int i)])
inductive RDs (H : Hp) : List V → List PyData → Prop
  | nil : RDs H [] []
  | cons {v : V} {vs : List V} {d : PyData} {ds : List PyData} : RD H v d → RDs H vs ds → RDs H (v :: vs) (d :: ds)
end
section
variable {X : Cx} {pins : List (Addr × Obj)} {σ : L2.St} {H : Hp} {s : Shared}
mutual
theorem RD.reads (I : Inv X pins σ H s) : ∀ (d : PyData) (v : V) (u : Value), RD H v d → RelV v u → ∃ as, Reads s.heap u d as ∧ sysModules ∉ as
  | .none, _, _, h, r => by
    cases h
    cases r
    exact ⟨_, Reads.none, by simp⟩
  | .bool b, _, _, h, r => by
    cases h
    cases r
    exact ⟨_, Reads.bool b, by simp⟩
  | .int i, _, _, h, r => by
    cases h
    obtain ⟨t, rfl⟩ := r
    exact ⟨_, Reads.int i t, by simp⟩
  | .str x, _, _, h, r => by
    cases h
    obtain ⟨t, rfl⟩ := r
    exact ⟨_, Reads.str x t, by simp⟩
  | .list ds, _, _, h, r => by
    cases h with
    | lst hs hn ha =>
      cases r
      obtain ⟨_, its, n, rv, e⟩ := I.hok _ _ hs
      obtain ⟨as, hr, hm⟩ := RD.readsAll I ds _ its ha rv
      exact ⟨_, Reads.list e rfl rfl hr, by
        intro z
        rcases List.mem_cons.mp z with z | z
        · exact hn z.symm
        · exact hm z⟩
  | .tuple ds, _, _, h, r => by
    cases h with
    | tup hs ha =>
      cases r
      obtain ⟨_, its, rv, o, h1, h2, n, h3⟩ := (show ObjOk X.prog X.w H s.heap _ (.tup _) from I.hok _ _ hs)
      obtain ⟨as, hr, hm⟩ := RD.readsAll I ds _ its ha rv
      exact ⟨_, Reads.tuple h1 h2 h3 hr, hm⟩
  | .dict kvs, _, _, h, r => by
    cases h with
    | @dic a0 x i hs =>
      cases r
      obtain ⟨hz, hn, vs, kv, o, es, ep, h1, hx, h3, hk, pr, nd⟩ := (show ObjOk X.prog X.w H s.heap _ (.dK _) from I.hok _ _ hs)
      cases kv with
      | @cons p0 b l0 r0 k1 k2 =>
        cases k2
        obtain ⟨e1, e2⟩ := k1
        obtain ⟨k, v⟩ := b
        dsimp only at e1 e2
        subst e1
        obtain ⟨t', rfl⟩ := e2
        generalize hl : es.toList = l at pr
        cases pr with
        | @cons en kv0 es0 kvs0 p1 p2 p3 =>
          cases p3
          obtain ⟨t, e3⟩ : ∃ t, en.key = Value.str x t := by
            rcases keyIs_shape (show keyIs (Sum.inr x) en.key = true from p1) with ⟨j, t, z, _⟩ | ⟨y, t, z, w⟩
            · cases z
            · cases z
              exact ⟨t, w⟩
          dsimp only at p2
          refine ⟨_, Reads.dict (kvs := [(.str x, .int i)]) h1 hx.1 h3 (as := []) (bs := []) ?_ ?_, ?_⟩
          · rw [hl]
            show ReadsAll s.heap [en.key] [PyData.str x] []
            rw [e3]
            exact ReadsAll.cons (Reads.str x t) ReadsAll.nil
          · rw [hl]
            show ReadsAll s.heap [en.val] [PyData.int i] []
            rw [p2]
            exact ReadsAll.cons (Reads.int i t') ReadsAll.nil
          · intro z
            rcases List.mem_cons.mp z with z | z
            · rw [← z] at hn
              exact absurd hn (by decide)
            · simp at z
theorem RD.readsAll (I : Inv X pins σ H s) : ∀ (ds : List PyData) (vs : List V) (us : List Value), RDs H vs ds → Vals vs us → ∃ as, ReadsAll s.heap us ds as ∧ sysModules ∉ as
  | [], _, _, h, r => by
    cases h
    cases r
    exact ⟨_, ReadsAll.nil, by simp⟩
  | d :: ds, _, _, h, r => by
    cases h with
    | cons h1 h2 =>
      cases r with
      | cons r1 r2 =>
        obtain ⟨as, q1, m1⟩ := RD.reads I d _ _ h1 r1
        obtain ⟨bs, q2, m2⟩ := RD.readsAll I ds _ _ h2 r2
        exact ⟨_, ReadsAll.cons q1 q2, by
          intro z
          rcases List.mem_append.mp z with z | z
          · exact m1 z
          · exact m2 z⟩
end
/-- repr(x) of such data -/
def rRepr : List V → Hp → VK → Prop := fun xs H Q => ∃ (x : V) (d : PyData), xs = [x] ∧ RD H x d ∧ d.showable = true ∧ d.depth ≤ 64 ∧ d.shown.length ≤ sizeLine ∧ Q (.str d.shown) H
end
section
variable {X : Cx}
theorem call_repr (hg : X.A.guards = some []) (hu : X.A.units + 65 < cLine) : CallR X (.builtin "repr") rRepr := by
  intro pins s σ H xs us Q I r h
  obtain ⟨x, d, rfl, hd, hs, h64, hl, q⟩ := h
  obtain ⟨u, rfl, ru⟩ := vals1 r
  obtain ⟨as, rd, hm⟩ := RD.reads I d x u hd ru
  cases hd with
  | non =>
    cases ru
    exact PySem.P.repr_of_none ⟨.str _, H, I.tok _, ⟨_, rfl⟩, q⟩
  | bl b =>
    cases ru
    refine PySem.P.repr_of_bool ⟨.str _, H, I.tok _, ⟨_, rfl⟩, ?_⟩
    cases b <;> exact q
  | int i =>
    obtain ⟨t, rfl⟩ := ru
    exact PySem.P.repr_of_int (of_decide_eq_true hs) ⟨.str _, H, I.tok _, ⟨_, rfl⟩, q⟩
  | str y =>
    obtain ⟨t, rfl⟩ := ru
    exact PySem.P.repr_of_str ⟨.str _, H, I.tok _, ⟨_, rfl⟩, q⟩ hl
  | lst e n hx =>
    cases ru
    refine repr_of_reads' rd hs (fun _ => hm) hg (by omega) (fun _ _ z => z) (fun h' u tk k => ?_) hl
    exact ⟨.str _, H, I.kept (t' := tk) k, ⟨_, rfl⟩, q⟩
  | tup e hx =>
    cases ru
    refine repr_of_reads' rd hs (fun _ => hm) hg (by omega) (fun _ _ z => z) (fun h' u tk k => ?_) hl
    exact ⟨.str _, H, I.kept (t' := tk) k, ⟨_, rfl⟩, q⟩
  | dic e =>
    cases ru
    refine repr_of_reads' rd hs (fun _ => hm) hg (by omega) (fun _ _ z => z) (fun h' u tk k => ?_) hl
    exact ⟨.str _, H, I.kept (t' := tk) k, ⟨_, rfl⟩, q⟩
end
section
variable {X : Cx} {es : List Expr} {t : TA} {pos : Pos}
/-- [..], and that the list is not sys.modules -/
def tLstN (t : TA) : TE := fun σ H Q => t σ H fun xs H1 => xs.length ≤ sizeLine ∧ ∀ p, H1 p = none → p ≠ sysModules → Q (.ref p) (upd H1 p (.lst xs))
theorem pe_lstN (h : PA X es t) : PE X (.List es pos) (tLstN t) := by
  refine ⟨fun pins s σ H Q I hq => ?_⟩
  refine wpAny_List_spliced (thn (h.run pos pins s σ H _ I hq) fun us s1 w => ?_)
  obtain ⟨xs, H1, I1, r, z, q⟩ := w
  refine ⟨by rw [← r.length]; exact z, ?_⟩
  exact ⟨.ref s1.heap.objs.size, _, I1.lnew (t' := s1.toks) r z, rfl, q _ I1.fresh (Nat.ne_of_gt I1.big)⟩
def rCatN : R2 := fun x y H Q => ∃ l b xs zs, x = .ref l ∧ y = .ref b ∧ H l = some (.lst xs) ∧ H b = some (.lst zs) ∧ xs.length + zs.length ≤ sizeLine ∧ ∀ p, H p = none → p ≠ sysModules → Q (.ref p) (upd H p (.lst (xs ++ zs)))
theorem op_catN : OpR X (binaryOp .Add) rCatN := by
  intro pins s σ H x y v u Q I rx ry h
  obtain ⟨l, b, xs, zs, rfl, rfl, hx, hy, hz, q⟩ := h
  cases rx
  cases ry
  obtain ⟨_, us, n, r, e0, e⟩ := I.lstM hx
  obtain ⟨_, ws, m, r', f0, f⟩ := I.lstM hy
  refine PySem.P.add_list e f ?_ (by rw [List.size_toArray, List.size_toArray, ← e0, ← f0]; exact hz)
  rw [show us.toArray ++ ws.toArray = (us ++ ws).toArray by simp]
  exact ⟨.ref _, _, I.lnew (t' := s.toks) (r.append r') (by rw [List.length_append]; exact hz), rfl, q _ I.fresh (Nat.ne_of_gt I.big)⟩
def rRepN : R2 := fun x y H Q => ∃ l xs k, x = .ref l ∧ y = .int k ∧ H l = some (.lst xs) ∧ 0 ≤ k ∧ k < 1000 ∧ xs.length ≤ 1000 ∧ ∀ p, H p = none → p ≠ sysModules → Q (.ref p) (upd H p (.lst (List.replicate k.toNat xs).flatten))
theorem op_repN : OpR X (binaryOp .Mult) rRepN := by
  intro pins s σ H x y v u Q I rx ry h
  obtain ⟨l, xs, k, rfl, rfl, hx, k0, k1, hl, q⟩ := h
  cases rx
  obtain ⟨t, rfl⟩ := ry
  obtain ⟨_, us, n, r, e0, e⟩ := I.lstM hx
  have sz : us.toArray.size * k.toNat ≤ 1000 * 1000 := by
    rw [List.size_toArray, ← e0]
    exact Nat.mul_le_mul hl (by omega)
  have sl : us.toArray.size * k.toNat ≤ sizeLine := Nat.le_trans sz (by decide)
  have c1 : ¬ us.toArray.size * k.toNat > (2 ^ 63 - 1) / 8 := by
    have : 1000 * 1000 ≤ (2 ^ 63 - 1) / 8 := by decide
    omega
  have c2 : ¬ (!Builtin.List.listFitsIndex k) = true := by
    rw [fitsIndex_both (by omega) (by omega)]
    exact Bool.false_ne_true
  have c3 : ¬ Builtin.List.listTooLong (us.toArray.size * k.toNat) = true := by
    rw [notLongL sl]
    exact Bool.false_ne_true
  have made : List.foldl (fun x1 x2 => x1 ++ x2) #[] (List.replicate (if us.toArray.isEmpty = true then 0 else k.toNat) us.toArray) = (List.replicate k.toNat us).flatten.toArray := by
    have f0 : ∀ m : Nat, List.foldl (fun x1 x2 => x1 ++ x2) #[] (List.replicate m us.toArray) = (List.replicate m us).flatten.toArray := fun m => by
      have z := foldl_rep us m []
      rw [List.nil_append] at z
      exact z
    rw [f0]
    cases us with
    | nil => simp
    | cons a r' => rw [if_neg (by simp)]
  refine wpAny_binaryOp_repeat_ref (T := "list") (U := "int") (by decide) ⟨_, e, rfl⟩ (fun s' => typeIs_int s' k t) noFill_list_mul F.fills_int_mul
    F.slot_int_rmul repeat_list F.slot_int_index.lookup (call_meets F.slot_int_rmul (typeIs_int s k t) F.entry_int_rmul (F.args_int_rmul_2 _ _)
      (int___rmul___int_list k t l us.toArray n) ⟨e, rfl, ⟨_, e, rfl⟩, call_meets F.slot_list_mul ⟨_, e, rfl⟩ F.entry_list_mul (F.args_list_mul_2 _ _)
        (AutoListH.list___mul___list_int_3 l us.toArray n k t c2 c1 c3) ⟨e, ?_⟩⟩)
  rw [made]
  exact ⟨.ref _, _, I.lnew (t' := s.toks) (r.rep k.toNat) (by rw [PyProof.Rows.lm_len_rep_flat, Nat.mul_comm, r.length, ← List.size_toArray]; exact sl), rfl, q _ I.fresh (Nat.ne_of_gt I.big)⟩
end
end XO
set_option maxRecDepth 100000
set_option maxHeartbeats 4000000
/-! The law's own def, entered from its caller alone: there nothing is being shown (repr asks that). -/
namespace XO
open PySem PySem.Spec PyProof.Rows L2
/-- a def entered at one place A, by its body -/
theorem run_at {P : Program} {w : World} {K : PySem.W.Frag} {mg : Str → Option Value} {base : Heap} {k : Nat} {f : Addr} {x0 qn : Str} {pr : Arguments} {bd : List Stmt} {sc : Scope} {dV kV doc pm cdv ct oc : Value} {an od : Option Addr} {sl : Array (Option Value)} {N ps : List Str}
    (lk : K.lookup f = some ⟨oc, od, .func (PySem.W.fnOf x0 qn pr bd sc dV kV doc pm an cdv ct), sl⟩) (hcd : PySem.W.codeIn K cdv qn = true) (S : FnScope N ps sc) {A : Around} {outer : List Env} {s : Shared} {H : Hp} {args : Args} {us : List Value} {vs : List V} {Q : VK} {E : XK}
    (hr : Room (k + 1) A) (e0 : Env0 P w K mg base A outer s H) (hb : BindsTo s (PySem.W.fnOf x0 qn pr bd sc dV kV doc pm an cdv ct) args (ps.zip us)) (r : Vals vs us) (hl : vs.length = ps.length)
    (body : Room k (A.deeper (envOfC qn sc s.heap.objs.size f cdv)) → ∃ t, PSs (cxOf CX0 P w K mg base N qn sc f cdv A outer s H E).nox bd t ∧ t { nx := fun _ H' => Q .non H', rt := Q } (start N vs) H) :
    codeAny (model P w) A (.call (.ref f) args) (CR CX0 outer P w H s Q E) s := by
  have X0 : K.In s.heap := e0.mod.kin.keeps fun b o e => (e0.bs b o e).1
  have lim : s.heap.NoLimit := e0.mod.nolimit.keeps fun b o e => (e0.bs b o e).1
  refine codeAny_call_function hr.depth (X0 _ _ lk) rfl S.co S.gen rfl (PySem.W.codeRec_of X0 hcd) (hb _ _ _ _ ?_)
  refine wpAny_newFunctionEnv_cells S.kind (fun z hz => ?_) fun env he s1 y => ?_
  · rcases S.par z.1 (List.of_mem_zip (show (z.1, z.2) ∈ ps.zip us from hz)).1 with c | c
    · exact .inl c
    · exact .inr ⟨c, PySem.W.cellsFrom_some _ _ _ (.inl c)⟩
  · subst he
    obtain ⟨t, ht, hq⟩ := body (hr.deeper _)
    refine ⟨lim.keeps y.toInCall.keep, codeAny_func ?_⟩
    have I := inv_start (CX := CX0) (E := E) S hr.hd e0 hl r y
    refine wpAny_mono (ht.nox.run [] s1 (start N vs) H _ I hq) (fun fl s' hs => ?_) fun e s' hs => hs
    cases fl with
    | ret u =>
      obtain ⟨v, σ', H', J, rv, q⟩ := hs
      exact ⟨v, H', J.os, J.bare, J.base, J.hok, rv, q⟩
    | next =>
      obtain ⟨σ', H', J, q⟩ := hs
      exact ⟨V.non, H', J.os, J.bare, J.base, J.hok, rfl, q⟩
    | brk =>
      obtain ⟨_, _, _, q⟩ := hs
      exact q.elim
    | cont =>
      obtain ⟨_, _, _, q⟩ := hs
      exact q.elim
/-! ### the start: which abstract heap the script stands in -/
section
variable {P : Program} {w : World} {K : PySem.W.Frag} {mg mb : Str → Option Value} {f a : Addr} {s₁ s' : Shared} {vs : List Value} {ns : List Int} {H H' : Hp} {CX : CXT}
/-- H tracks at most the script at a, known to its object -/
structure Starts (P : Program) (w : World) (K : PySem.W.Frag) (a : Addr) (ns : List Int) (s₁ : Shared) (H : Hp) : Prop where
  only : Only H
  sq : SqL K H a (ns.map V.int)
  ok : HOk P w H s₁.heap
  at_ : ∀ b u, H b = some u → b = a ∧ K.lookup a = none
theorem starts_ex (X0 : K.In s₁.heap) (ha : s₁.heap.get? a = some { cls := .type "list", data := .seq vs.toArray }) (hi : IntsAre vs ns) (hl : ns.length ≤ sizeLine) : ∃ H, Starts P w K a ns s₁ H := by
  have vi := vals_ints hi
  match hk : K.lookup a with
  | some o =>
    cases ha.symm.trans (X0 a o hk)
    exact ⟨fun _ => none, fun _ => .inl rfl, .inr ⟨_, _, _, hk, rfl, rfl, rfl, by rw [List.size_toArray, hi.length]; exact hl, by simpa using vi⟩, nofun, nofun⟩
  | none =>
    let it : HO := .frz { cls := .type "list", data := .seq vs.toArray } (.lst (ns.map V.int))
    have here : ∀ b u, (fun b => if b = a then some it else none) b = some u → b = a ∧ u = it := fun b u z => by
      by_cases hb : b = a
      · exact ⟨hb, (Option.some.inj ((if_pos hb).symm.trans z)).symm⟩
      · exact nomatch (if_neg hb).symm.trans z
    refine ⟨fun b => if b = a then some it else none, fun b => ?_, .inl (.inr ⟨_, if_pos rfl⟩), fun b u z => ?_, fun b u z => ⟨(here b u z).1, hk⟩⟩
    · cases e : (fun b => if b = a then some it else none) b with
      | none => exact .inl e
      | some u => exact .inr ⟨_, _, e.trans (congrArg some (here b u e).2)⟩
    · obtain ⟨rfl, rfl⟩ := here b u z
      exact ⟨ha, (by rw [List.length_map]; exact hl), vs, _, vi, ha⟩
theorem Starts.none_of (S : Starts P w K a ns s₁ H) {b : Addr} (h : b = a → K.lookup a = none → False) : H b = none :=
  Option.eq_none_iff_forall_ne_some.mpr fun u z => h (S.at_ b u z).1 (S.at_ b u z).2
theorem Starts.env (S : Starts P w K a ns s₁ H) (X0 : K.In s₁.heap) (G : s₁.heap.Ns mainGlobals mg) (Gb : s₁.heap.Ns builtinsNs mb) (bb : ∀ x : Str, x ≠ "__name__" → mb x = bootBuiltins x) (lim : s₁.heap.NoLimit) (g0 : s₁.gens = #[])
    (ha : s₁.heap.get? a = some { cls := .type "list", data := .seq vs.toArray }) : K.In (hidT s₁.heap H) ∧ (hidT s₁.heap H).Ns mainGlobals mg ∧ Env0 P w K mg (hidT s₁.heap H) callerA [] s₁ H := by
  have names : ∀ {b : Addr} {m : Str → Option Value}, s₁.heap.Ns b m → (hidT s₁.heap H).Ns b m := fun ⟨o, es, ep, e, d, z⟩ => by
    refine ⟨o, es, ep, hidT_get e (S.none_of fun q _ => ?_), d, z⟩
    cases (q ▸ e).symm.trans ha
    exact nomatch (show Data.seq vs.toArray _ = Data.dict es ep from d)
  have own : K.In (hidT s₁.heap H) := fun b o e => hidT_get (X0 b o e) (S.none_of fun q n => nomatch (q ▸ e : K.lookup a = some o).symm.trans n)
  obtain ⟨mc, l1, l2⟩ := lim
  exact ⟨own, names G, rfl, ⟨own, names G, ⟨mb, names Gb, bb⟩, mc, names l1, l2⟩, fun _ _ => of_hidT, Nat.le_of_eq (hidT_size _ _), trivial, nofun, S.ok, .of_eq g0⟩
/-- what stood at the start stands at the end -/
theorem Starts.stays (S : Starts P w K a ns s₁ H) (un : Un (frs []) [] H H' s₁.heap s'.heap) (ok : HOk P w H' s'.heap) : OldK s₁.heap s'.heap := OldK.of_keep fun b o e => by
  match q : H b with
  | none => exact un.keep b o e q nofun nofun
  | some u =>
    obtain ⟨ob, xs, y⟩ := (S.only b).resolve_left (by rw [q]; nofun)
    cases e.symm.trans (S.ok b _ y).1
    exact (ok b _ (un.frzs b _ _ y)).1
/-- the law's call: the def at f gives True from wherever the script's list stands -/
theorem law_atC (X0 : K.In s₁.heap) (G : s₁.heap.Ns mainGlobals mg) (Gb : s₁.heap.Ns builtinsNs mb) (bb : ∀ x : Str, x ≠ "__name__" → mb x = bootBuiltins x) (lim : s₁.heap.NoLimit) (g0 : s₁.gens = #[])
    (ha : s₁.heap.get? a = some { cls := .type "list", data := .seq vs.toArray }) (hi : IntsAre vs ns) (hl : ns.length ≤ sizeLine) (hCX : ∀ H e s', CX [] H s₁ (fun _ _ _ => False) e s' → False)
    (F : ∀ (base : Heap) (H : Hp), K.In base → base.Ns mainGlobals mg → Env0 P w K mg base callerA [] s₁ H → Only H → SqL K H a (ns.map V.int) →
      codeAny (model P w) callerA (.call (.ref f) ⟨[.ref a], []⟩) (CR CX [] P w H s₁ (fun v _ => v = .bl true) fun _ _ _ => False) s₁) :
    codeAny (model P w) callerA (.call (.ref f) ⟨[.ref a], []⟩) (fun r s' => r = .ok (.ret (.bool true)) ∧ OldK s₁.heap s'.heap ∧ s'.os = s₁.os ∧ AllBare s'.gens) s₁ := by
  obtain ⟨H, S⟩ := starts_ex (P := P) (w := w) X0 ha hi hl
  obtain ⟨k, g, e0⟩ := S.env X0 G Gb bb lim g0 ha
  refine codeAny_mono (F _ H k g e0 S.only S.sq) ?_
  rintro (e | fl) s' z
  · exact (hCX H e s' z).elim
  · cases fl with
    | ret u =>
      obtain ⟨_, H', os, bare, un, ok, ru, rfl⟩ := z
      exact ⟨congrArg (fun v => Except.ok (Flow.ret v)) ru, S.stays un ok, os, bare⟩
    | _ => exact False.elim z
theorem law_at (X0 : K.In s₁.heap) (G : s₁.heap.Ns mainGlobals mg) (Gb : s₁.heap.Ns builtinsNs mb) (bb : ∀ x : Str, x ≠ "__name__" → mb x = bootBuiltins x) (lim : s₁.heap.NoLimit) (g0 : s₁.gens = #[])
    (ha : s₁.heap.get? a = some { cls := .type "list", data := .seq vs.toArray }) (hi : IntsAre vs ns) (hl : ns.length ≤ sizeLine)
    (F : ∀ (base : Heap) (H : Hp), K.In base → base.Ns mainGlobals mg → Env0 P w K mg base callerA [] s₁ H → Only H → SqL K H a (ns.map V.int) →
      codeAny (model P w) callerA (.call (.ref f) ⟨[.ref a], []⟩) (CR CX0 [] P w H s₁ (fun v _ => v = .bl true) fun _ _ _ => False) s₁) :
    codeAny (model P w) callerA (.call (.ref f) ⟨[.ref a], []⟩) (fun r s' => r = .ok (.ret (.bool true)) ∧ OldK s₁.heap s'.heap ∧ s'.os = s₁.os ∧ AllBare s'.gens) s₁ := law_atC (CX := CX0) X0 G Gb bb lim g0 ha hi hl (fun _ _ _ z => z) F
end
end XO
set_option maxRecDepth 100000
set_option maxHeartbeats 4000000
/-! What an expression gives, where all that is known stays known: Grow, Stb, EvP. -/
namespace LP
open PySem PySem.Spec PyProof.Rows L2
abbrev Grow (H H' : Hp) : Prop := ∀ b o, H b = some o → H' b = some o
theorem grow_rfl {H : Hp} : Grow H H := fun _ _ h => h
theorem Grow.tr {H H1 H2 : Hp} (a : Grow H H1) (b : Grow H1 H2) : Grow H H2 := fun c o h => b c o (a c o h)
theorem grow_new {H : Hp} {p : Addr} {o : HO} (h : H p = none) : Grow H (upd H p o) := fun a u e => by
  rw [upd_ne (ne_of_none e h)]
  exact e
abbrev PV := V → Hp → Prop
def Stb (P : PV) : Prop := ∀ v H H', Grow H H' → P v H → P v H'
def EvP (te : TE) (σ : L2.St) (H : Hp) (P : PV) : Prop := ∀ H1, Grow H H1 → ∀ Q : VK, (∀ v H2, Grow H1 H2 → P v H2 → Q v H2) → te σ H1 Q
def AllP : List PV → List V → Hp → Prop
  | [], [], _ => True
  | P :: Ps, v :: vs, H => P v H ∧ AllP Ps vs H
  | _, _, _ => False
def StbA : List PV → Prop
  | [] => True
  | P :: Ps => Stb P ∧ StbA Ps
theorem AllP.grow : ∀ {Ps : List PV} {vs : List V} {H H' : Hp}, StbA Ps → Grow H H' → AllP Ps vs H → AllP Ps vs H'
  | [], [], _, _, _, _, _ => trivial
  | _ :: _, _ :: _, _, _, ⟨s, t⟩, g, ⟨a, b⟩ => ⟨s _ _ _ g a, AllP.grow t g b⟩
theorem AllP.len : ∀ {Ps : List PV} {vs : List V} {H : Hp}, AllP Ps vs H → vs.length = Ps.length
  | [], [], _, _ => rfl
  | _ :: _, _ :: _, _, ⟨_, b⟩ => congrArg Nat.succ (AllP.len b)
theorem AllP.app : ∀ {Ps Qs : List PV} {vs ws : List V} {H : Hp}, AllP Ps vs H → AllP Qs ws H → AllP (Ps ++ Qs) (vs ++ ws) H
  | [], _, [], _, _, _, b => b
  | _ :: _, _, _ :: _, _, _, ⟨x, y⟩, b => ⟨x, AllP.app y b⟩
theorem AllP.at : ∀ {Ps : List PV} {vs : List V} {H : Hp} {i : Nat} {P : PV}, AllP Ps vs H → Ps[i]? = some P → ∃ v, vs[i]? = some v ∧ P v H
  | _ :: _, v :: _, _, 0, _, ⟨x, _⟩, e => by
    cases e
    exact ⟨v, rfl, x⟩
  | _ :: Ps, _ :: vs, _, i + 1, P, ⟨_, y⟩, e => AllP.at (i := i) y e
theorem StbA.app : ∀ {Ps Qs : List PV}, StbA Ps → StbA Qs → StbA (Ps ++ Qs)
  | [], _, _, b => b
  | _ :: _, _, ⟨x, y⟩, b => ⟨x, StbA.app y b⟩
def EvPs (ta : TA) (σ : L2.St) (H : Hp) (Ps : List PV) : Prop := ∀ H1, Grow H H1 → ∀ Q : List V → Hp → Prop, (∀ vs H2, Grow H1 H2 → AllP Ps vs H2 → Q vs H2) → ta σ H1 Q
/-- a list (a tuple) of such values, not sys.modules where that is asked -/
def LstP (Ps : List PV) : PV := fun v H => ∃ (p : Addr) (xs : List V), v = .ref p ∧ H p = some (.lst xs) ∧ AllP Ps xs H
def LstN (Ps : List PV) : PV := fun v H => ∃ (p : Addr) (xs : List V), v = .ref p ∧ p ≠ sysModules ∧ H p = some (.lst xs) ∧ AllP Ps xs H
def IsP (v : V) : PV := fun u _ => u = v
theorem stb_is {v : V} : Stb (IsP v) := fun _ _ _ _ h => h
theorem stb_lst {Ps : List PV} (s : StbA Ps) : Stb (LstP Ps) := fun _ _ _ g ⟨p, xs, e, h, a⟩ => ⟨p, xs, e, g _ _ h, a.grow s g⟩
theorem stb_lstN {Ps : List PV} (s : StbA Ps) : Stb (LstN Ps) := fun _ _ _ g ⟨p, xs, e, n, h, a⟩ => ⟨p, xs, e, n, g _ _ h, a.grow s g⟩
section
variable {K : PySem.W.Frag} {σ : L2.St} {H H' : Hp} {te ta tb : TE} {tl : TA} {P R : PV} {Ps Qs : List PV} {v : V} {i : Nat}
theorem EvP.grow (e : Grow H H') (h : EvP te σ H P) : EvP te σ H' P := fun H1 g Q q => h H1 (e.tr g) Q q
theorem evp_var (h : σ[i]? = some (some v)) (p : P v H) (s : Stb P) : EvP (tVar i) σ H P := fun H1 g Q q => ⟨v, h, q v H1 grow_rfl (s _ _ _ g p)⟩
theorem evp_c : EvP (tC v) σ H (IsP v) := fun H1 _ Q q => q v H1 grow_rfl rfl
theorem EvPs.nil : EvPs tNil σ H [] := fun H1 _ Q q => q [] H1 grow_rfl trivial
theorem EvPs.cons (s : Stb P) (h : EvP te σ H P) (t : EvPs tl σ H Ps) : EvPs (tCons te tl) σ H (P :: Ps) := fun H1 g Q q => h H1 g _ fun x H2 g2 px => t H2 (g.tr g2) _ fun xs H3 g3 pxs => q _ H3 (g2.tr g3) ⟨s _ _ _ g3 px, pxs⟩
theorem evp_lst (n : Ps.length ≤ 1000) (h : EvPs tl σ H Ps) (s : StbA Ps) : EvP (tLst tl) σ H (LstP Ps) := fun H1 g Q q => h H1 g _ fun xs H2 g2 px =>
  ⟨Nat.le_trans (Nat.le_of_eq px.len) (Nat.le_trans n (by decide)), fun p hp => q _ _ (g2.tr (grow_new hp)) ⟨p, xs, rfl, upd_same, px.grow s (grow_new hp)⟩⟩
theorem evp_lstN (n : Ps.length ≤ 1000) (h : EvPs tl σ H Ps) (s : StbA Ps) : EvP (XO.tLstN tl) σ H (LstN Ps) := fun H1 g Q q => h H1 g _ fun xs H2 g2 px =>
  ⟨Nat.le_trans (Nat.le_of_eq px.len) (Nat.le_trans n (by decide)), fun p hp np => q _ _ (g2.tr (grow_new hp)) ⟨p, xs, rfl, np, upd_same, px.grow s (grow_new hp)⟩⟩
theorem evp_cat (n : Ps.length + Qs.length ≤ 1000) (h : EvP ta σ H (LstP Ps)) (t : EvP tb σ H (LstP Qs)) (s : StbA Ps) (s' : StbA Qs) : EvP (tOp rCat ta tb) σ H (LstP (Ps ++ Qs)) := fun H1 g Q q =>
  h H1 g _ fun x H2 g2 ⟨p, xs, ex, hp, ap⟩ => t H2 (g.tr g2) _ fun y H3 g3 ⟨p', ys, ey, hp', ap'⟩ => by
    subst ex ey
    refine ⟨p, p', xs, ys, rfl, rfl, g3 _ _ hp, hp', ?_, fun z hz => q _ _ ((g2.tr g3).tr (grow_new hz)) ⟨z, _, rfl, upd_same, ((ap.grow s g3).app ap').grow (s.app s') (grow_new hz)⟩⟩
    rw [ap.len, ap'.len]
    exact Nat.le_trans n (by decide)
theorem evp_catN (n : Ps.length + Qs.length ≤ 1000) (h : EvP ta σ H (LstP Ps)) (t : EvP tb σ H (LstP Qs)) (s : StbA Ps) (s' : StbA Qs) : EvP (tOp XO.rCatN ta tb) σ H (LstN (Ps ++ Qs)) := fun H1 g Q q =>
  h H1 g _ fun x H2 g2 ⟨p, xs, ex, hp, ap⟩ => t H2 (g.tr g2) _ fun y H3 g3 ⟨p', ys, ey, hp', ap'⟩ => by
    subst ex ey
    refine ⟨p, p', xs, ys, rfl, rfl, g3 _ _ hp, hp', ?_, fun z hz nz => q _ _ ((g2.tr g3).tr (grow_new hz)) ⟨z, _, rfl, nz, upd_same, ((ap.grow s g3).app ap').grow (s.app s') (grow_new hz)⟩⟩
    rw [ap.len, ap'.len]
    exact Nat.le_trans n (by decide)
theorem LstN.lst (v : V) (H : Hp) (h : LstN Ps v H) : LstP Ps v H := by
  obtain ⟨p, xs, e, _, r⟩ := h
  exact ⟨p, xs, e, r⟩
theorem EvP.imp (m : ∀ v H, P v H → R v H) (h : EvP te σ H P) : EvP te σ H R := fun H1 g Q q => h H1 g Q fun v H2 g2 p => q v H2 g2 (m v H2 p)
/-- an item of a list at a written place -/
theorem evp_ix {k : Int} {j : Nat} (h : EvP ta σ H (LstP Ps)) (e : k = (j : Int)) (hj : Ps[j]? = some P) : EvP (tOp (rIxL K) ta (tC (.int k))) σ H P := fun H1 g Q q =>
  h H1 g _ fun x H2 g2 ⟨p, xs, ex, hp, ap⟩ => by
    subst ex
    obtain ⟨v, hv, pv⟩ := ap.at hj
    exact ⟨p, xs, k, v, rfl, rfl, SqL.of hp, by rw [e]; exact atI_nat hv, q v H2 g2 pv⟩
theorem st_setP {D : Ends} (h : EvP te σ H P) (q : ∀ v H', Grow H H' → P v H' → D.nx (σ.set i (some v)) H') : tAsg te (gName i) D σ H := h H grow_rfl _ fun v H2 g p => q v H2 g p
theorem sq_set {D : Ends} {u : TS} (h : EvP te σ H P) (q : ∀ v H', Grow H H' → P v H' → u D (σ.set i (some v)) H') : tSeq (tAsg te (gName i)) u D σ H := h H grow_rfl _ fun v H2 g p => q v H2 g p
theorem st_retP {D : Ends} (h : EvP te σ H P) (q : ∀ v H', Grow H H' → P v H' → D.rt v H') : tRet te D σ H := h H grow_rfl _ fun v H2 g p => q v H2 g p
end
end LP
set_option maxRecDepth 100000
set_option maxHeartbeats 4000000
/-! Operators that an own class defines, and the truth of its instances, over the hand layer. -/
namespace RX
open PySem PySem.Spec PyProof.Rows L2
theorem back {v : V} {u : Value} {Q : Value → Shared → Prop} {s : Shared} (r : RelV v u) (q : Q u s) : PySem.W.CmpBack Q u s := by
  cases v with
  | non => cases r; exact q
  | bl b => cases r; exact q
  | int i => obtain ⟨t, rfl⟩ := r; exact q
  | str x => obtain ⟨t, rfl⟩ := r; exact q
  | byt x => obtain ⟨t, rfl⟩ := r; exact q
  | flt x => obtain ⟨t, rfl⟩ := r; exact q
  | ref a => cases r; exact q
  | ty n => cases r; exact q
/-- a special method that the class at C has of its own -/
structure Own (K : PySem.W.Frag) (C f : Addr) (name : Str) : Prop where
  at_ : PySem.W.findIn K (.ref C) name = some (some (.ref f))
  fn : PySem.W.isFn K (.ref f) = true
section
variable {X : Cx} {CX : CXT} {k : Nat} {f C : Addr} {fd : FuncData} {ps : List Str} {sp : Sp} {E : XK} {pins : List (Addr × Obj)} {σ : L2.St} {H : Hp} {s : Shared}
theorem inst_at {a dx : Addr} {fs : List (Str × V)} (I : Inv X pins σ H s) (e : H a = some (.ins C dx fs)) : ∃ ox od, PySem.W.InstAt s.heap a ox C (some od) := by
  obtain ⟨mA, J, _⟩ := ins_get I.hok e
  obtain ⟨od, J, _⟩ := J.look
  exact ⟨_, od, J⟩
/-- the callee runs, from an around below the body's -/
theorem run_sub {A : Around} {Q : VK} {us : List Value} {vs : List V} (F : FnOk X.prog X.w X.K X.mg X.base CX k f fd ps sp) (hr : Room k A) (fr : A.frames = X.A.frames) (hb : Binds X.K fd ps []) (hx : Passes CX X E)
    (I : Inv X pins σ H s) (r : Vals vs us) (h : sp vs H Q E) : wpAny (model X.prog X.w) A (call (.ref f) us) (EP X pins σ Q) X.xe s := by
  have e0 : Env0 X.prog X.w X.K X.mg X.base A X.stack s H := by
    have e := I.env0
    exact ⟨by rw [fr]; exact e.frames, e.mod, e.bs, e.bsz, e.funs, e.frf, e.hok, e.bare⟩
  have hl : us.length = ps.length := by rw [← r.length]; exact F.len _ _ _ _ h
  refine wpAny_call (codeAny_mono (F.run A X.stack s H ⟨us, []⟩ us vs Q E hr e0 (by
    have := hb s us I.kIn (by simpa using hl)
    simpa using this) r h) fun r s' hq => ?_)
  cases r with
  | error e => exact hx pins σ H s e s' I hq
  | ok fl =>
    cases fl with
    | ret u => exact I.after hq
    | next => exact False.elim hq
    | brk => exact False.elim hq
    | cont => exact False.elim hq
/-- x op y, both of the class at C, by its own def -/
def rOwn (C : Addr) (sp : Sp) (E : XK) : R2 := fun x y H Q => ∃ a dx fs b dy gs, x = .ref a ∧ y = .ref b ∧ H a = some (.ins C dx fs) ∧ H b = some (.ins C dy gs) ∧ sp [.ref a, .ref b] H Q E
theorem op_own {op : Operator} (F : FnOk X.prog X.w X.K X.mg X.base CX k f fd ps sp) (hc : PySem.W.selfFirst X.K C = true) (O : Own X.K C f (PySem.dunder op.info.2)) (hr : Room k X.A) (hb : Binds X.K fd ps []) (hx : Passes CX X E) : OpR X (binaryOp op) (rOwn C sp E) := by
  intro pins s σ H x y v u Q I rx ry h
  obtain ⟨a, dx, fs, b, dy, gs, rfl, rfl, ea, eb, q⟩ := h
  cases rx
  cases ry
  obtain ⟨_, _, J⟩ := inst_at I ea
  obtain ⟨_, _, J'⟩ := inst_at I eb
  obtain ⟨m, hF⟩ := I.fr
  refine PySem.W.binop_K hF I.ok.mod.kin J J'.type hc O.at_ O.fn ?_
  refine wpAny_mono (run_sub (vs := [.ref a, .ref b]) F hr rfl hb hx I (.cons rfl (.cons rfl .nil)) q) (fun r s' z => ?_) fun _ _ z => z
  have z' := z
  obtain ⟨_, _, _, rv, _⟩ := z'
  exact back rv z
/-- -x -/
def rNegO (C : Addr) (sp : Sp) (E : XK) : V → Hp → VK → Prop := fun x H Q => ∃ a dx fs, x = .ref a ∧ H a = some (.ins C dx fs) ∧ sp [.ref a] H Q E
theorem un_own (F : FnOk X.prog X.w X.K X.mg X.base CX k f fd ps sp) (O : Own X.K C f "__neg__") (hr : Room k X.A) (hb : Binds X.K fd ps []) (hx : Passes CX X E) : UnR X (unaryOp .USub) (rNegO C sp E) := by
  intro pins s σ H x v Q I rx h
  obtain ⟨a, dx, fs, rfl, ea, q⟩ := h
  cases rx
  obtain ⟨_, _, J⟩ := inst_at I ea
  obtain ⟨m, hF⟩ := I.fr
  exact PySem.W.ksp_neg hF I.ok.mod.kin J O.at_ O.fn (run_sub (vs := [.ref a]) F hr rfl hb hx I (.cons rfl .nil) q)
/-- what stands at a value's type -/
theorem ty_looks {x : V} {u t : Value} {M : Model} (I : Inv X pins σ H s) (rx : RelV x u) (ty : TyOf X.K H x t) : PySem.W.Looks M s.heap (typeOf u) t := by
  cases ty with
  | non => cases (show u = Value.none from rx); exact PySem.W.Looks.of_pure rfl
  | bl y => cases (show u = Value.bool y from rx); exact PySem.W.Looks.of_pure rfl
  | int i => obtain ⟨t, q⟩ := (show ∃ t, u = Value.int i t from rx); cases q; exact PySem.W.Looks.of_pure rfl
  | str y => obtain ⟨t, q⟩ := (show ∃ t, u = Value.str y t from rx); cases q; exact PySem.W.Looks.of_pure rfl
  | flt y => obtain ⟨t, q⟩ := (show ∃ t, u = Value.float y t from rx); cases q; exact PySem.W.Looks.of_pure rfl
  | @lst a xs ea =>
    cases (show u = Value.ref a from rx)
    obtain ⟨_, _, n, _, h1⟩ := (show ObjOk X.prog X.w H s.heap a (.lst xs) from I.hok a _ ea)
    exact fun A Q E s k q => wpAny_typeOf_ref (k _ _ h1) q
  | @frz a ob xs ea =>
    cases (show u = Value.ref a from rx)
    obtain ⟨_, _, _, n, _, h1⟩ := (show ObjOk X.prog X.w H s.heap a (.frz ob (.lst xs)) from I.hok a _ ea)
    exact fun A Q E s k q => wpAny_typeOf_ref (k _ _ h1) q
  | @tup a xs ea =>
    cases (show u = Value.ref a from rx)
    obtain ⟨_, _, _, p⟩ := (show ObjOk X.prog X.w H s.heap a (.tup xs) from I.hok a _ ea)
    obtain ⟨o, h1, h2, _⟩ := p
    exact fun A Q E s k q => wpAny_typeOf_ref (k _ _ h1) (by rw [h2]; exact q)
  | @dK a kvs ea =>
    cases (show u = Value.ref a from rx)
    obtain ⟨_, _, vs, _, p⟩ := (show ObjOk X.prog X.w H s.heap a (.dK kvs) from I.hok a _ ea)
    obtain ⟨o, es, ep, h1, h2, _⟩ := p
    exact fun A Q E s k q => wpAny_typeOf_ref (k _ _ h1) (by rw [h2.1]; exact q)
  | @dT a kvs ea =>
    cases (show u = Value.ref a from rx)
    obtain ⟨_, _, xs, _, o, es, ep, h1, h2, _⟩ := (show ObjOk X.prog X.w H s.heap a (.dT kvs) from I.hok a _ ea)
    exact fun A Q E s k q => wpAny_typeOf_ref (k _ _ h1) (by rw [h2.1]; exact q)
  | @ins a C dx fs ea cl ha hn htk hm =>
    cases (show u = Value.ref a from rx)
    obtain ⟨_, _, J⟩ := inst_at I ea
    exact J.type
/-- x == y, x of the class at C, y of any type that is known -/
def rEqO (K : PySem.W.Frag) (C : Addr) (sp : Sp) (E : XK) : R2 := fun x y H Q => ∃ a dx fs t, x = .ref a ∧ H a = some (.ins C dx fs) ∧ TyOf K H y t ∧ PySem.W.notFirst K C t = true ∧ sp [.ref a, y] H Q E
theorem op_eqO (F : FnOk X.prog X.w X.K X.mg X.base CX k f fd ps sp) (O : Own X.K C f "__eq__") (hr : Room k X.A) (hb : Binds X.K fd ps []) (hx : Passes CX X E) : OpR X (compareOp .Eq) (rEqO X.K C sp E) := by
  intro pins s σ H x y v u Q I rx ry h
  obtain ⟨a, dx, fs, t, rfl, ea, ty, hn, q⟩ := h
  cases rx
  obtain ⟨_, _, J⟩ := inst_at I ea
  obtain ⟨m, hF⟩ := I.fr
  show wpAny _ _ (richCompare .Eq (.ref a) u) _ _ _
  refine PySem.W.cmp_K (op := .Eq) hr.units0 hF I.ok.mod.kin J (ty_looks I ry ty) hn O.at_ O.fn ?_
  refine wpAny_mono (run_sub (vs := [.ref a, y]) F hr rfl hb hx I (.cons rfl (.cons ry .nil)) q) (fun r s' z => ?_) fun _ _ z => z
  have z' := z
  obtain ⟨_, _, _, rv, _⟩ := z'
  exact back rv z
end
/-! ### !=, by object's own __ne__ over the class's __eq__ -/
section
open PySem.W
variable {prog : Program} {w : World} {A : Around} {E : Value → Shared → Prop} {s : Shared} {K : Frag} {x C L f : Addr} {h₀ : Heap} {m : Str → Option Value} {ox : Obj} {od : Option Obj} {b tb : Value}
theorem ne_entry (X : K.In s.heap) (I : InstAt s.heap x ox C od) (hs : findIn K (.ref C) "__eq__" = some (some (.ref f))) (hf : isFn K (.ref f) = true) (hu : A.units < cLine) {Q : Fin → Shared → Prop}
    (hcall : wpAny (model prog w) A (call (.ref f) [.ref x, b]) (fun v s' => ∃ c, v = .bool c ∧ Q (.done (.ret (.bool (!c)))) s') E s) :
    wpAny (model prog w) A (Builtin.«object.__ne__» ⟨[.ref x, b], []⟩) Q E s := by
  have one : wpAny (model prog w) A (callSpecialIfBound? (.ref x) (Str.ofString "__eq__") [b]) (fun r s' => ∃ c, r = some (.bool c) ∧ Q (.done (.ret (.bool (!c)))) s') E s :=
    ifBound_K X I hs hf (wpAny_mono hcall (fun v s' z => by
      obtain ⟨c, rfl, q⟩ := z
      exact ⟨c, rfl, q⟩) fun _ _ z => z)
  obtain ⟨hh, g, d, t, os⟩ := s
  unfold Builtin.«object.__ne__»
  repeat (first
    | with_reducible refine wpAny_cRoomFor hu ?_
    | (refine wpAny_bind (m := callSpecialIfBound? (.ref x) (Str.ofString "__eq__") [b]) (wpAny_mono one (fun r s' hr => by
          obtain ⟨c, rfl, hq⟩ := hr
          repeat (first | exact hq | exact wpAny_pure hq | exact wpAny_truthy_bool hq | (refine wpAny_bind (m := truthy (.bool _)) (wpAny_truthy_bool ?_)) | wp_step)) fun _ _ e => e))
    | wp_step)
end
end RX
set_option maxRecDepth 100000
set_option maxHeartbeats 4000000
/-! !=, bool(..) and calls by keyword of own classes; defs that are entered where nothing is being shown. -/
namespace RX
open PySem PySem.Spec PyProof.Rows L2
section
open PySem.W
variable {prog : Program} {w : World} {A : Around} {E : Value → Shared → Prop} {s : Shared} {K : Frag} {x C L f : Addr} {h₀ : Heap} {m : Str → Option Value} {ox : Obj} {od : Option Obj} {b tb : Value}
theorem ne_slot : Slot "object" "__ne__" "object.__ne__" := PySem.F.slot_object_ne
/-- a special method that is a builtin of the class's line -/
theorem ifBound_B {M : Model} {name : Str} {id : String} {args : List Value} {Q : Option Value → Shared → Prop} (X : K.In s.heap) (I : InstAt s.heap x ox C od) (hs : findIn K (.ref C) name = some (some (.builtin id))) (hb : bindSpecial (.builtin id) (.ref x) = pure (.builtin id, [.ref x]))
    (h : wpAny M A (call (.builtin id) (.ref x :: args)) (fun v => Q (some v)) E s) : wpAny M A (callSpecialIfBound? (.ref x) name args) Q E s := by
  have told : wpAny M A (do let v ← call (.builtin id) ([.ref x] ++ args); pure (some v)) Q E s := wpAny_bind (thn h fun _ _ q => wpAny_pure q)
  simp only [callSpecialIfBound?, bindSpecialIfBound?]
  apply wpAny_holding
  refine wpAny_bind (wpAny_bind (wpAny_bind (I.type.here ((looks_findIn X hs).here ?_))))
  simp only [hb]
  refine wpAny_bind (wpAny_askSetting (wpAny_ite ?_))
  split <;> first
    | exact wpAny_bind (wpAny_pure (wpAny_pure told))
    | exact wpAny_tryCatch (wpAny_bind (wpAny_pure (wpAny_pure told)))
theorem ne_K {Q : Value → Shared → Prop} (hu : A.units + 1 < cLine) (F : Fr h₀ L s.heap m) (X₀ : K.In h₀) (I : InstAt s.heap x ox C od) (hb : Looks (model prog w) s.heap (typeOf b) tb) (hn : notFirst K C tb = true)
    (h1 : findIn K (.ref C) "__ne__" = some (some (.builtin "object.__ne__"))) (hs : findIn K (.ref C) "__eq__" = some (some (.ref f))) (hf : isFn K (.ref f) = true) (ho : mroIn K C (.type "object") = some true)
    (h : wpAny (model prog w) A.in1 (call (.ref f) [.ref x, b]) (fun v s' => ∃ c, v = .bool c ∧ Q (.bool (!c)) s') E s) : wpAny (model prog w) A (richCompare .NotEq (.ref x) b) Q E s := by
  have X := X₀.keeps F.keep
  have anObject : Looks (model prog w) s.heap (isInstance (.ref x) (.type "object")) true := I.type.andThen (looks_mroIn X ho)
  -- object.__ne__ asks __eq__ and turns it round
  have turned : wpAny (model prog w) A (call (.builtin "object.__ne__") [.ref x, b]) (fun v s' => ∃ c, v = .bool c ∧ Q (.bool c) s') E s :=
    wpAny_call (codeAny_call_builtin ne_slot.plain PySem.F.cmpEntry_ne (check_slot PySem.F.cmpKind_ne PySem.F.cmpSplit_ne anObject (PySem.F.cmpArgs_ne _ _)
      (ne_entry X I hs hf (A := A.in1) hu (thn h fun _ _ ⟨c, e, q⟩ => ⟨c, e, ⟨!c, rfl, q⟩⟩))))
  have asked : wpAny (model prog w) A (tryCompare (.ref x) (cmpInfo .NotEq).2.1 b) (fun r s' => ∃ c, r = some (.bool c) ∧ Q (.bool c) s') E s := by
    simp only [tryCompare]
    exact wpAny_bind (ifBound_B X I h1 (ne_slot.bind _) (thn turned fun _ _ ⟨c, e, q⟩ => by subst e; exact wpAny_pure ⟨c, rfl, q⟩))
  have rest : ∀ {g : Option Value → Sem Value}, (∀ v s', Q v s' → wpAny (model prog w) A (g (some v)) Q E s') → wpAny (model prog w) A (tryCompare (.ref x) (cmpInfo .NotEq).2.1 b >>= g) Q E s := fun hg =>
    wpAny_bind (thn asked fun r s' ⟨c, e, q⟩ => e ▸ hg _ s' q)
  simp only [richCompare, oneThing_ref]
  apply wpAny_holding
  refine wpAny_bind (wpAny_cRoomFor (by omega) (wpAny_bind (I.type.here (wpAny_bind (hb.here ?_)))))
  split
  · next q =>
    have e : subIn K tb (.ref C) = some false := (Bool.or_eq_true_iff.mp hn).elim (fun z => by rw [beq_iff_eq.mp z] at q; simp at q) fun z => beq_iff_eq.mp z
    refine wpAny_bind ((looks_subIn X e).here ?_)
    simp only [Bool.false_eq_true, if_false]
    exact rest fun v s' z => wpAny_pure z
  · refine wpAny_bind (wpAny_pure ?_)
    simp only [Bool.false_eq_true, if_false]
    exact rest fun v s' z => wpAny_pure z
theorem bool_new (x : Addr) : MeetsIn prog w (Builtin.«bool.__new__» ⟨[.type "bool", .ref x], []⟩) (fun A R s => wpAny (model prog w) A.in1 (truthy (.ref x)) (fun b s1 => R (.ok (.ret (.bool b))) s1) (fun e s1 => R (.error e) s1) s) :=
  .of_wp fun A R s h => by
    obtain ⟨hp, g, d, tk, os⟩ := s
    have f1 := PySem.F.conv_sub_bool
    repeat (any_goals (first | assumption | (with_reducible refine wpAny_mono h (fun b s1 z => ?_) (fun _ _ z => z)) | wp_step))
    all_goals first | exact ⟨_, rfl, z⟩ | skip
theorem call_bool_ref {x : Addr} {Q : Value → Shared → Prop} (h : wpAny (model prog w) A.in1.in1 (truthy (.ref x)) (fun b s1 => Q (.bool b) s1) E s) : wpAny (model prog w) A (call (.type "bool") [.ref x]) Q E s := by
  refine callType_newIn PySem.F.called_bool PySem.F.newNe_bool (PySem.F.typeCall_bool_1 _) (PySem.F.newCall_bool_1 _) (fun obj => PySem.F.args_object_init_2 obj _) PySem.F.entry_bool_new (bool_new x) ?_
  show wpAny (model prog w) A.in1.in1 (truthy (.ref x)) _ _ _
  refine wpAny_mono h (fun b s1 q => ?_) fun _ _ z => z
  show _ ∧ _
  exact ⟨rfl, q⟩
end

section
variable {X : Cx} {CX : CXT} {k : Nat} {f C : Addr} {fd : FuncData} {ps : List Str} {sp : Sp} {E : XK}
/-- x != y, both of the class at C, by its own == -/
def rNeO (K : PySem.W.Frag) (C : Addr) (sp : Sp) (E : XK) : R2 := fun x y H Q => ∃ a dx fs t, x = .ref a ∧ H a = some (.ins C dx fs) ∧ TyOf K H y t ∧ PySem.W.notFirst K C t = true ∧ sp [.ref a, y] H (fun v H' => ∃ c, v = .bl c ∧ Q (.bl (!c)) H') E
theorem op_neO (F : FnOk X.prog X.w X.K X.mg X.base CX k f fd ps sp) (O : Own X.K C f "__eq__") (h1 : PySem.W.findIn X.K (.ref C) "__ne__" = some (some (.builtin "object.__ne__"))) (ho : PySem.W.mroIn X.K C (.type "object") = some true)
    (hr : Room (k + 1) X.A) (hb : Binds X.K fd ps []) (hx : Passes CX X E) : OpR X (compareOp .NotEq) (rNeO X.K C sp E) := by
  intro pins s σ H x y v u Q I rx ry h
  obtain ⟨a, dx, fs, t, rfl, ea, ty, hn, q⟩ := h
  cases rx
  obtain ⟨_, _, J⟩ := inst_at I ea
  obtain ⟨m, hF⟩ := I.fr
  show wpAny _ _ (richCompare .NotEq (.ref a) u) _ _ _
  refine ne_K (hu_of hr) hF I.ok.mod.kin J (ty_looks I ry ty) hn h1 O.at_ O.fn ho ?_
  refine wpAny_mono (run_sub (vs := [.ref a, y]) F hr.in1 rfl hb hx I (.cons rfl (.cons ry .nil)) q) (fun r s' z => ?_) fun _ _ z => z
  obtain ⟨w, H', I', rv, c, rfl, q'⟩ := z
  cases rv
  exact ⟨c, rfl, .bl (!c), H', I', rfl, q'⟩
/-- bool(x) of an instance, by its own __bool__ -/
def rBoolO (C : Addr) (sp : Sp) (E : XK) : List V → Hp → VK → Prop := fun xs H Q => ∃ a dx fs, xs = [.ref a] ∧ H a = some (.ins C dx fs) ∧ sp [.ref a] H (fun v H' => ∃ c, v = .bl c ∧ Q (.bl c) H') E
theorem call_boolO (F : FnOk X.prog X.w X.K X.mg X.base CX k f fd ps sp) (O : Own X.K C f "__bool__") (hr : Room (k + 2) X.A) (hb : Binds X.K fd ps []) (hx : Passes CX X E) : CallR X (.type "bool") (rBoolO C sp E) := by
  intro pins s σ H xs us Q I r h
  obtain ⟨a, dx, fs, rfl, ea, q⟩ := h
  obtain rfl := Vals.ref1 r
  obtain ⟨_, _, J⟩ := inst_at I ea
  obtain ⟨m, hF⟩ := I.fr
  refine call_bool_ref (PySem.W.truthy_K hF I.ok.mod.kin J O.at_ O.fn ?_)
  refine wpAny_mono (run_sub (vs := [.ref a]) F hr.in1.in1 rfl hb hx I (.cons rfl .nil) q) (fun r s' z => ?_) fun _ _ z => z
  obtain ⟨w, H', I', rv, c, rfl, q'⟩ := z
  cases rv
  exact ⟨.bl c, H', I', rfl, q'⟩
end
/-! ### o.m(k = v), C.m(k = v) -/
/-- o.m(k = v, ..) -/
def tMethK (C : Addr) (m : Str) (sp : Sp) (gV : List V → List V → List V) (E : XK) (ta : TE) (tk : TA) : TE := fun σ H Q => ta σ H fun x H1 => ∃ a dx fs, x = .ref a ∧ H1 a = some (.ins C dx fs) ∧ fs.lookup m = none ∧ tk σ H1 fun zs H2 => sp (gV [x] zs) H2 Q E
section
variable {X : Cx} {CX : CXT} {k : Nat} {f C p g : Addr} {mc : Value} {fd : FuncData} {ps ks : List Str} {sp : Sp} {E : XK} {o : Expr} {kws : List Keyword} {m : Str} {pos apos : Pos} {ta : TE} {tk : TA} {pl : Sem Bool} {gB : List Value → List Value → List Value} {gV : List V → List V → List V}
theorem pe_methK (he : PE X o ta) (c : Cls X.K C) (hm : Meth X.K C m f) (F : FnOk X.prog X.w X.K X.mg X.base CX k f fd ps sp) (hr : Room k X.A) (hb : KBinds X.K fd ps ks gB gV) (hx : Passes CX X E) (hkw : PK X kws tk)
    (hall : (backToKw pos (keywordEach kws X.env)).all (·.1.isSome) = true := by rfl) (hks : (backToKw pos (keywordEach kws X.env)).filterMap (·.1) = ks := by rfl)
    (hpl : ((backTo pos (starEach [] X.env)).any (·.1) || (backToKw pos (keywordEach kws X.env)).any (·.1.isNone)) = false := by rfl)
    (ht : eval (.Call (.Attribute o m apos) [] kws pos) X.env = (do
      let ov ← eval o X.env
      standAt apos.atName
      let (f, first) ← holding [ov] (getMethod ov m pl)
      callWith pos f first (backTo pos (starEach [] X.env)) (backToKw pos (keywordEach kws X.env))) := by rfl) :
    PE X (.Call (.Attribute o m apos) [] kws pos) (tMethK C m sp gV E ta tk) := by
  refine ⟨fun pins s σ H Q I h => ?_⟩
  refine PySem.W.methodCall_KW (pl := pl) (thn (he.run pins s σ H _ I h) fun u s1 ⟨x, H1, I1, rx, a, dx, fs, ex, ea, l, q⟩ => ?_) ht
  subst ex
  obtain rfl : u = Value.ref a := rx
  refine getmeth_ok I1 ea c hm l ?_
  refine PySem.W.callWith_KW0 (first := [.ref a]) (h₀ := X.base) I.ok.mod.kin hm.kp hall ?_ hpl
  refine thn (hkw.run pos pins s1 σ H1 _ I1 q) fun ws s2 ⟨zs, H2, I2, rz, q2⟩ => ⟨I2.kIn, ?_⟩
  rw [hks]
  exact run_fnk (us := [.ref a]) (vs := [.ref a]) F hr hb hx I2 (.cons rfl .nil) rz q2
end
/-! ### defs that are entered where nothing is being shown (repr asks that) -/
structure FnG (P : Program) (w : World) (K : PySem.W.Frag) (mg : Str → Option Value) (base : Heap) (k : Nat) (f : Addr) (fd : FuncData) (ps : List Str) (sp : Sp) : Prop where
  len : ∀ vs H Q E, sp vs H Q E → vs.length = ps.length
  run : ∀ (A : Around) (outer : List Env) (s : Shared) (H : Hp) (args : Args) (us : List Value) (vs : List V) (Q : VK) (E : XK), Room k A → A.guards = some [] → Env0 P w K mg base A outer s H → BindsTo s fd args (ps.zip us) → Vals vs us → sp vs H Q E →
    codeAny (model P w) A (.call (.ref f) args) (CR CX0 outer P w H s Q E) s
section
variable {X : Cx} {k : Nat} {f : Addr} {fd : FuncData} {ps : List Str} {sp : Sp} {x : Str} {p pos : Pos} {e : Expr} {es : List Expr} {t : TA}
theorem pe_callG (F : FnG X.prog X.w X.K X.mg X.base k f fd ps sp) (hr : Room k X.A) (hgd : X.A.guards = some []) (hg : Gl X x) (hm : X.mg x = some (.ref f)) (hk : PySem.W.keepIn X.K (.ref f) = true) (hb : Binds X.K fd ps [])
    (ha : PA X (e :: es) t) (hdb : (x == ("__debug__" : Str)) = false := by decide) (he : starEach (e :: es) X.env = (false, eval e X.env) :: starEach es X.env := by rfl) (hpl : (backTo pos (starEach es X.env)).any (·.1) = false := by rfl) :
    PE X (.Call (.Name x p) (e :: es) [] pos) (tCall sp [] E0 t) := by
  refine ⟨fun pins s σ H Q I h => ?_⟩
  refine wpAny_Call_Name_kw (ld_glob I hg hm ?_ hdb)
  refine PySem.W.callWith_K (h₀ := X.base) I.ok.mod.kin hk (thn (ha.run pos pins s σ H _ I h) fun us s1 ⟨vs, H1, I1, r, q⟩ => ⟨I1.kIn, ?_⟩) he hpl
  have q : sp (vs ++ []) H1 Q E0 := q
  rw [List.append_nil] at q
  have hl : us.length = ps.length := by rw [← r.length]; exact F.len _ _ _ _ q
  refine wpAny_call (codeAny_mono (F.run X.A X.stack s1 H1 ⟨us, []⟩ us vs Q E0 hr hgd I1.env0 (by
    have := hb s1 us I1.kIn (by simpa using hl)
    simpa using this) r q) fun r s' hq => ?_)
  cases r with
  | error e => exact False.elim hq
  | ok fl =>
    cases fl with
    | ret u => exact I1.after hq
    | next => exact False.elim hq
    | brk => exact False.elim hq
    | cont => exact False.elim hq
end
section
variable {P : Program} {w : World} {K : PySem.W.Frag} {mg : Str → Option Value} {base : Heap}
theorem fnG_of {x qual : Str} {st : Stmt} {f : Addr} {fd : FuncData} {N ps : List Str} {k : Nat} {sp : Sp} (F : Fun K x qual st f fd) (S : FnScope N ps (defScope st)) (len : ∀ vs H Q E, sp vs H Q E → vs.length = ps.length)
    (hbody : ∀ (cdv : Value) (A : Around) (outer : List Env) (s : Shared) (H : Hp) (vs : List V) (Q : VK) (E : XK), Room k (A.deeper (envOfC qual (defScope st) s.heap.objs.size f cdv)) → (A.deeper (envOfC qual (defScope st) s.heap.objs.size f cdv)).guards = some [] → sp vs H Q E →
      ∃ t, PSs (cxOf CX0 P w K mg base N qual (defScope st) f cdv A outer s H E).nox (defBody st) t ∧ t { nx := fun _ H' => Q .non H', rt := Q } (start N vs) H) : FnG P w K mg base (k + 1) f fd ps sp := by
  obtain ⟨oc, od, kV, doc, pm, an, cdv, ct, osl, rfl, lk, hcd⟩ := F.ex
  refine ⟨len, fun A outer s H args us vs Q E hr hgd e0 hb r hsp => ?_⟩
  exact XO.run_at lk hcd S hr e0 hb r (len _ _ _ _ hsp) fun hr' => hbody cdv A outer s H vs Q E hr' hgd hsp
end
end RX
set_option maxRecDepth 100000
set_option maxHeartbeats 4000000
/-! Except clauses one by one: what is caught, what one clause does with it; an own error made without arguments; a classmethod called by keyword. -/
namespace RX
open PySem PySem.Spec PyProof.Rows L2
abbrev Suite := Addr → Value → Option Addr → TS
/-- the ends of a suite whose name, at slot i, goes -/
abbrev gone (i : Nat) (D : Ends) : Ends := { nx := fun σ' H' => D.nx (σ'.set i none) H', rt := D.rt, bk := fun σ' H' => D.bk (σ'.set i none) H', ct := fun σ' H' => D.ct (σ'.set i none) H' }
/-- what clauses with names wish of an exception, from the first on -/
def wNames (K : PySem.W.Frag) (n : Nat) (Wout : WX) (D : Ends) : List (Value × Nat × Suite) → WX
  | [] => Wout
  | q :: r => fun cls d σ H => ∃ b, PySem.W.exmOne K cls q.1 = some b ∧
      (b = true → ∀ a, H a = none → σ.length = n → q.2.2 a cls d (gone q.2.1 D) (σ.set q.2.1 (some (.ref a))) H) ∧ (b = false → wNames K n Wout D r cls d σ H)
section
variable {X : Cx} {pins : List (Addr × Obj)} {σ : L2.St} {H : Hp} {a : Addr} {cls : Value} {d : Option Addr} {s : Shared}
/-- an exception of class cls is in this frame's hand: the state without it, and what it has left as it was -/
structure Cgt (X : Cx) (pins : List (Addr × Obj)) (σ : L2.St) (H : Hp) (a : Addr) (cls : Value) (d : Option Addr) (B : Heap) (s0 s : Shared) : Prop where
  I : Inv X pins σ H s0
  gr : ∀ b o, s0.heap.get? b = some o → b ∉ frs X.stack → B.get? b = some o
  up : s0.heap.UpToSlots s.heap
  fl : HandSPX.FlyingZ B X.stack a (Zc cls d) s.heap
  na : H a = none
  os : s.os = s0.os
  ag : AllBare s.gens
variable {B : Heap} {s0 : Shared}
theorem Cgt.inv (c : Cgt X pins σ H a cls d B s0 s) : Inv X pins σ H s := c.I.landed c.gr c.fl.1 c.up c.os c.ag
/-- the flight told once more to be over -/
theorem Cgt.rest (c : Cgt X pins σ H a cls d B s0 s) {A : Around} {Q : Unit → Shared → Prop} {E : Value → Shared → Prop} (h : ∀ s', Cgt X pins σ H a cls d B s0 s' → Q () s') : wpAny (model X.prog X.w) A (setFlight (.ref a) none) Q E s :=
  HandSPX.lands_againZ c.fl fun _ fl' u' => h _ { c with up := c.up.trans u', fl := fl' }
/-- its object, and the state in which a suite runs -/
theorem Cgt.obj (c : Cgt X pins σ H a cls d B s0 s) (hf : X.env.frame = some X.env.locals) (hs : X.stack = X.env :: X.outer) :
    ∃ oe vs, s.heap.get? a = some oe ∧ Zc cls d oe ∧ oe.data = .fields vs ∧ Inv (X.suite a ((a, oe) :: (X.pn ++ pins))) [] σ H s := by
  obtain ⟨oe, vs, e1, e2, e3⟩ := c.fl.there
  have off : a ∉ frs X.stack := fun hm => by
    obtain ⟨_, o', g, nf⟩ := Heap.FunFrames.mem c.fl.2.2.1 hm
    cases e1.symm.trans g
    exact nf _ e3
  rw [hs] at off
  have off' : ∀ v ∈ X.env :: X.outer, v.frame ≠ some a := fun v hv q => off (List.mem_filterMap.mpr ⟨v, hv, q⟩)
  exact ⟨oe, vs, e1, e2, e3, c.inv.suite e1 e3 c.na (fun q => off' _ (.head _) (by rw [hf, q])) fun hm =>
    let ⟨v, hv, q⟩ := List.mem_filterMap.mp hm
    off' v (.tail _ hv) q⟩
/-- nobody wanted it: it goes on from this frame -/
theorem Cgt.pass (c : Cgt X pins σ H a cls d B s0 s) (hf : X.env.frame = some X.env.locals) {W : WX} (tk : Takes X W) (w : W cls d σ H) {r : String} {Q : Flow → Shared → Prop} : wpAny (model X.prog X.w) X.A (passOn r (.ref a) X.env) Q X.xe s := by
  obtain ⟨oe, vs, T, _, _, g1, _, g2, g3, _⟩ := c.fl.2.2.2
  have away : wpAny (model X.prog X.w) X.A (setFlight (.ref a) X.env.frame) (fun _ s' => wpAny (model X.prog X.w) X.A (throw (.ref a) : Sem Flow) Q X.xe s') X.xe s := by
    rw [hf]
    exact HandSPX.setFlight_upZ c.fl fun _ hd u' => wpAny_throw (tk _ _ ⟨a, B, s0, pins, σ, H, cls, d, rfl, c.I, c.gr, c.up.trans u', .inr (.inr hd), c.na, c.os, c.ag, w⟩)
  have tn : (Value.ref T == Value.none) = false := rfl
  simp only [PySem.passOn]
  refine wpAny_bind (wpAny_field g1 g2 g3 ?_)
  simp only [tn, Bool.false_eq_true, if_false]
  first
    | exact wpAny_bind away
    | exact wpAny_bind (wpAny_pure (wpAny_bind away))
/-- behind the body, behind a suite: the same state, in the try's own context -/
theorem SP.out {X' : Cx} {ps : List (Addr × Obj)} {D : Ends} (h : ∀ {σ' H' s'}, Inv X' ps σ' H' s' → Inv X pins σ' H' s') : ∀ {f : Flow} {s' : Shared}, SP X' ps D f s' → SP X pins D f s'
  | .next, _, ⟨_, _, J, q⟩ => ⟨_, _, h J, q⟩
  | .brk, _, ⟨_, _, J, q⟩ => ⟨_, _, h J, q⟩
  | .cont, _, ⟨_, _, J, q⟩ => ⟨_, _, h J, q⟩
  | .ret _, _, ⟨_, _, _, J, r, q⟩ => ⟨_, _, _, h J, r, q⟩
/-- clauses that do w with what is caught -/
def Hb (X : Cx) (hds : List ExceptHandler) (w : Ends → WX) : Prop := ∀ pins σ H a cls d B s0 s D, Cgt X pins σ H a cls d B s0 s → w D cls d σ H → wpAny (model X.prog X.w) X.A (handleBy (.ref a) X.env hds) (SP X pins D) X.xe s
end
section
variable {X : Cx} {hds : List ExceptHandler} {w w' : Ends → WX}
theorem Hb.weak (h : Hb X hds w) (i : ∀ D cls d σ H, w' D cls d σ H → w D cls d σ H) : Hb X hds w' := fun _ _ _ _ _ _ _ _ _ _ c q => h _ _ _ _ _ _ _ _ _ _ c (i _ _ _ _ _ q)
theorem hb_nil (hf : X.env.frame = some X.env.locals) {W : WX} (tk : Takes X W) : Hb X [] fun _ => W := fun _ _ _ _ _ _ _ _ _ _ c q => wpAny_handleBy_nil (c.pass hf tk q)
/-- except x as n: suite; n is at slot i -/
theorem hb_as (hs : X.stack = X.env :: X.outer) (hf : X.env.frame = some X.env.locals) (hN : X.N.Nodup) {x n : Str} {i : Nat} {cv : Value} {ts : Suite} {b₀ : Stmt} {suite : List Stmt} {np pos : Pos} (hi : X.N[i]? = some n) (hln : X.env.kindOf n = some .local) (hc : Names X x cv)
    (hsu : ∀ (a : Addr) (oe : Obj) (cls : Value) (d : Option Addr) (pn : List (Addr × Obj)), Zc cls d oe → (∃ vs, oe.data = .fields vs) → PSs (X.suite a ((a, oe) :: pn)) (b₀ :: suite) (ts a cls d)) (hr : Hb X hds w) :
    Hb X (.ExceptHandler (some (.Name x np)) (some n) (b₀ :: suite) pos :: hds) fun D cls d σ H => ∃ b, PySem.W.exmOne X.K cls cv = some b ∧
      (b = true → ∀ a, H a = none → σ.length = X.N.length → ts a cls d (gone i D) (σ.set i (some (.ref a))) H) ∧ (b = false → w D cls d σ H) := by
  intro pins σ H a cls d B s0 s D c ⟨b, eb, yes, no⟩
  obtain ⟨oe, _, e1, e2, _, J⟩ := c.obj hf hs
  have tyE : PySem.W.Looks (model X.prog X.w) s.heap (typeOf (.ref a)) cls := fun _ _ _ _ k q => wpAny_typeOf_ref (k _ _ e1) (e2.1 ▸ q)
  have isIt := PySem.W.exm_one (M := model X.prog X.w) c.inv.kIn tyE eb
  -- the class is read in the suite's context, and asked
  have ask : ∀ {Q : Bool → Shared → Prop} {E1 E2 : Value → Shared → Prop}, Q b s → wpAny (model X.prog X.w) (X.A.mark (some (.ref a))) (eval (.Name x np) X.env) (fun cv' s1 => wpAny (model X.prog X.w) (X.A.mark (some (.ref a))) (excMatches (.ref a) cv') Q E1 s1) E2 s := fun {Q E1 E2} q =>
    hc.2.2.elim (fun hm => ld_glob J hc.1 hm (isIt.here q) hc.2.1) fun hm => ld_blt J hc.1 hm.1 hm.2.1 (isIt.here q) hm.2.2 hc.2.1
  refine wpAny_handleBy_cons (codeAny_handlers_test (ask ?_)) nofun
  by_cases hb : b = true
  · subst hb
    -- the suite, with the name; behind it the name is gone
    have goes : ∀ {σ1 : L2.St} {H1 : Hp} {s1 : Shared} {Q : Shared → Prop} {q : Addr × Obj}, Inv (X.suite a (q :: (X.pn ++ pins))) [] σ1 H1 s1 → (∀ s2, Inv X pins (σ1.set i none) H1 s2 → Q s2) →
        wpAny (model X.prog X.w) X.A (do bindName X.env n .none; unbindBehindTheSuite X.env n pos) (fun _ s2 => Q s2) X.xe s1 := fun J1 h => gone_ok (J1.unsuite c.I.ok) hN hi hln h
    refine codeAny_handlers_suite_as (c.rest fun s1 c1 => ?_)
    obtain ⟨o1, _, f1, f2, f3, J1⟩ := c1.obj hf hs
    refine store_ok (X := X.suite a ((a, o1) :: (X.pn ++ pins))) (v := .ref a) J1 hN hi (.inl hln) rfl (fun s2 J2 => wpAny_mono ((hsu a o1 cls d _ f2 ⟨_, f3⟩).run [] s2 _ H (gone i D) J2 (yes rfl a c.na c.I.len)) (fun f s3 z => ?_) fun _ _ z => z.elim) (.inr hln)
    cases f with
    | ret u =>
      obtain ⟨_, _, _, J3, r3, q3⟩ := z
      exact goes J3 fun _ J4 => ⟨_, _, _, J4, r3, q3⟩
    | next =>
      obtain ⟨_, _, J3, q3⟩ := z
      exact goes J3 fun _ J4 => ⟨_, _, J4, q3⟩
    | cont =>
      obtain ⟨_, _, J3, q3⟩ := z
      exact goes J3 fun _ J4 => ⟨_, _, J4, q3⟩
    | brk =>
      obtain ⟨_, _, J3, q3⟩ := z
      exact goes J3 fun _ J4 => ⟨_, _, J4, q3⟩
  · obtain rfl : b = false := by simpa using hb
    exact hr _ _ _ _ _ _ _ _ _ _ c (no rfl)
/-- try: body, with such clauses -/
theorem ps_try_hb (hs : X.stack = X.env :: X.outer) (hf : X.env.frame = some X.env.locals) {h₀ : ExceptHandler} {body : List Stmt} {tb : WX → TS} {pos : Pos} (hh : Hb X (h₀ :: hds) w)
    (hb : ∀ (W : WX) (pn : List (Addr × Obj)) (xe : Value → Shared → Prop), Takes (X.tr pn xe) W → PassesOwn (model X.prog X.w) X.A X.env xe → PSs (X.tr pn xe) body (tb W)) : PS X (.Try body (h₀ :: hds) [] [] pos) (fun D => tb (w D) D) := by
  constructor
  intro pins s σ H D I h
  have fr : X.A.frames = some (X.env :: X.outer) := by rw [I.ok.frames, hs]
  apply wpAny_Try_except
  refine wpAny_mono ((hb (w D) (X.pn ++ pins) _ (fun e s1 x => ?_) PassesOwn.looking).run [] s σ H D (I.toTry _) h) (fun f s1 z => ?_) fun _ _ z => z
  · obtain ⟨a, B, s0, ps, σ1, H1, cls, d, rfl, J, gr, up, sky, na, os, ag, q⟩ := x
    have J0 : Inv X pins σ1 H1 s0 := J.ofTry I.ok
    have sky1 : Sky B (X.env :: X.outer) a (Zc cls d) X.env.locals s1.heap := hs ▸ sky
    exact Sky.land Zc.steady fr hf sky1 fun h' fl u' => hh _ _ _ _ _ _ B s0 _ D ⟨J0, gr, up.trans u', by rw [hs]; exact fl, na, os, ag⟩ q
  · have z := SP.out (pins := pins) (X := X) (fun J => J.ofTry I.ok) z
    cases f with
    | next => exact wpAny_execs_nil z
    | _ => exact z
/-- clauses with names, as a list -/
def HdsN (X : Cx) (hds : List ExceptHandler) (l : List (Value × Nat × Suite)) : Prop := X.stack = X.env :: X.outer → X.env.frame = some X.env.locals → X.N.Nodup → ∀ Wout, Takes X Wout → Hb X hds fun D => wNames X.K X.N.length Wout D l
theorem HdsN.nil : HdsN X [] [] := fun _ hf _ _ tk => hb_nil hf tk
theorem HdsN.cons {x n : Str} {i : Nat} {c : Value} {ts : Suite} {b₀ : Stmt} {suite : List Stmt} {np pos : Pos} {l : List (Value × Nat × Suite)} (hi : X.N[i]? = some n) (hln : X.env.kindOf n = some .local) (hc : Names X x c)
    (hsu : ∀ (a : Addr) (oe : Obj) (cls : Value) (d : Option Addr) (pn : List (Addr × Obj)), Zc cls d oe → (∃ vs, oe.data = .fields vs) → PSs (X.suite a ((a, oe) :: pn)) (b₀ :: suite) (ts a cls d)) (r : HdsN X hds l) :
    HdsN X (.ExceptHandler (some (.Name x np)) (some n) (b₀ :: suite) pos :: hds) ((c, i, ts) :: l) := fun hs hf hN W tk => hb_as hs hf hN hi hln hc hsu (r hs hf hN W tk)
theorem ps_try_names {body : List Stmt} {h₀ : ExceptHandler} {l : List (Value × Nat × Suite)} {pos : Pos} {tb : WX → TS} {Wout : WX} (hs : X.stack = X.env :: X.outer) (hf : X.env.frame = some X.env.locals) (hN : X.N.Nodup) (tk : Takes X Wout)
    (hb : ∀ (W : WX) (pn : List (Addr × Obj)) (xe : Value → Shared → Prop), Takes (X.tr pn xe) W → PassesOwn (model X.prog X.w) X.A X.env xe → PSs (X.tr pn xe) body (tb W))
    (hh : HdsN X (h₀ :: hds) l) : PS X (.Try body (h₀ :: hds) [] [] pos) (fun D σ H => tb (wNames X.K X.N.length Wout D l) D σ H) := ps_try_hb hs hf (hh hs hf hN Wout tk) hb
end
section
variable {X : Cx} {C : Addr} {bmB : List Value} {B newId initId : String}
/-- X(), an own exception class without an own __init__ -/
theorem pmk_own0 {x : Str} {p pos : Pos} (F : ExcBaseFacts B newId initId bmB) (q : PySem.W.excIn X.K C bmB newId = true) (gC : X.mg x = some (.ref C)) (kC : PySem.W.keepIn X.K (.ref C) = true) (r : Raises X (.ref C)) (hg : Gl X x)
    (hdb : (x == ("__debug__" : Str)) = false := by decide) : PMk X (.Call (.Name x p) [] [] pos) (fun _ H Q => Q (.ref C) none H) := by
  intro pins s σ H Q I h
  refine wpAny_Call_Name_kw (ld_glob I hg gC ?_ hdb)
  refine PySem.W.callWith_K0 I.kIn kC ?_
  show wpAny _ _ (call (.ref C) []) _ _ _
  obtain ⟨bm, N, nm, qn, bs, hdct, sn, sub, ab, col, dd, k0, k1, k2, k3, k5, mN, hC, hN, hni, T⟩ := exc_obj I.kIn q
  refine wpAny_call_exc_subT F T hC hN hni (fun h' e hm => ?_) (by show 0 ≤ sizeLine; rw [sizeLine_eq]; omega)
  exact mk_of I hm r h (I.hok.gone hm.new)
end
/-! ### C.m(k = v), m a classmethod -/
def tCMethK (C : Addr) (sp : Sp) (E : XK) (gV : List V → List V → List V) (ta : TE) (tk : TA) : TE := fun σ H Q => ta σ H fun x H1 => x = .ref C ∧ tk σ H1 fun zs H2 => sp (gV [.ref C] zs) H2 Q E
section
variable {X : Cx} {CX : CXT} {k : Nat} {C p g : Addr} {mc : Value} {fd : FuncData} {ps ks : List Str} {sp : Sp} {E : XK} {o : Expr} {kws : List Keyword} {m : Str} {pos apos : Pos} {ta : TE} {tk : TA} {pl : Sem Bool} {gB : List Value → List Value → List Value} {gV : List V → List V → List V}
theorem pe_cmethK (he : PE X o ta) (r : ClX.CRead X.K C mc) (c : ClX.CMet X.K C mc m p g) (F : FnOk X.prog X.w X.K X.mg X.base CX k g fd ps sp) (hr : Room k X.A) (hb : KBinds X.K fd ps ks gB gV) (hx : Passes CX X E) (hkw : PK X kws tk)
    (hall : (backToKw pos (keywordEach kws X.env)).all (·.1.isSome) = true := by rfl) (hks : (backToKw pos (keywordEach kws X.env)).filterMap (·.1) = ks := by rfl)
    (hpl : ((backTo pos (starEach [] X.env)).any (·.1) || (backToKw pos (keywordEach kws X.env)).any (·.1.isNone)) = false := by rfl)
    (ht : eval (.Call (.Attribute o m apos) [] kws pos) X.env = (do
      let ov ← eval o X.env
      standAt apos.atName
      let (f, first) ← holding [ov] (getMethod ov m pl)
      callWith pos f first (backTo pos (starEach [] X.env)) (backToKw pos (keywordEach kws X.env))) := by rfl) :
    PE X (.Call (.Attribute o m apos) [] kws pos) (tCMethK C sp E gV ta tk) := by
  refine ⟨fun pins s σ H Q I h => ?_⟩
  refine PySem.W.methodCall_KW (pl := pl) (thn (he.run pins s σ H _ I h) fun u s1 ⟨x, H1, I1, rx, ex, q⟩ => ?_) ht
  subst ex
  obtain rfl : u = Value.ref C := rx
  refine ClX.getmethcm_ok I1 r c fun s2 I2 => ?_
  have hq := ClX.pin_at I2
  refine PySem.W.callWith_of hpl (PySem.W.keeps_M (self := .ref C) c.fi) (PyProof.Rows.evalArgs_kw2_nil hall ?_)
  refine thn (hkw.run pos _ s2 σ H1 _ I2 q) fun ws s3 ⟨zs, H2, I3, rz, q2⟩ => ⟨⟨ClX.pin_at I3, I3.kIn⟩, ?_⟩
  rw [hks]
  show wpAny _ _ (call (.ref s1.heap.objs.size) [] (ks.zip ws)) _ _ _
  have z : wpAny (model X.prog X.w) X.A (call (.ref s1.heap.objs.size) [] (ks.zip ws)) (EP X ((s1.heap.objs.size, PySem.W.methodObj (.ref g) (.ref C)) :: pins) σ Q) X.xe s3 := by
    refine wpAny_call (PySem.W.method_call (ClX.pin_at I3) ?_)
    have r2 := hb.rel (.cons rfl .nil : Vals [V.ref C] [Value.ref C]) rz
    have hl : (gB [Value.ref C] ws).length = ps.length := by rw [← r2.length]; exact F.len _ _ _ _ q2
    refine codeAny_mono (F.run X.A X.stack s3 H2 ⟨[.ref C], ks.zip ws⟩ (gB [.ref C] ws) (gV [.ref C] zs) Q E hr I3.env0 (hb.to s3 [.ref C] ws I3.kIn hl) r2 q2) fun r s' hq => ?_
    cases r with
    | error e => exact hx _ σ H2 s3 e s' I3 hq
    | ok fl =>
      cases fl with
      | ret u => exact I3.after hq
      | next => exact False.elim hq
      | brk => exact False.elim hq
      | cont => exact False.elim hq
  exact thn z fun _ _ y => ClX.unpinE y
end
end RX
set_option maxRecDepth 100000
set_option maxHeartbeats 4000000
/-! Ratios: what the class's defs promise. -/
namespace RX
open PySem PySem.Spec PyProof.Rows L2
section
variable {σ : L2.St} {H : Hp} {te : TE} {v : V} {c : TT} {t1 t2 u : TS} {D : Ends} {i : Nat}
theorem sA_no (h : Ans c σ H false) (q : u D σ H) : tSeq (tIfS c t1 tNext) u D σ H := h _ (iteF q)
theorem sA_yes (h : Ans c σ H true) (q : t1 { D with nx := u D } σ H) : tSeq (tIfS c t1 t2) u D σ H := h _ (iteT q)
theorem sA_set (h : Val te σ H v) (q : u D (σ.set i (some v)) H) : tSeq (tAsg te (gName i)) u D σ H := h _ q
end
/-! ### lowest terms -/
def gc (u d : Int) : Int := if d < 0 then -((Nat.gcd u.natAbs d.natAbs : Nat) : Int) else ((Nat.gcd u.natAbs d.natAbs : Nat) : Int)
def tp (u d : Int) : Int := u.fdiv (gc u d)
def bt (u d : Int) : Int := d.fdiv (gc u d)
theorem gcd_pos {u d : Int} (h : d ≠ 0) : 0 < Nat.gcd u.natAbs d.natAbs := Nat.gcd_pos_of_pos_right _ (by omega)
theorem gc_ne {u d : Int} (h : d ≠ 0) : gc u d ≠ 0 := by
  have := gcd_pos (u := u) h
  unfold gc
  split <;> omega
theorem gc_le {u d : Int} {n : Nat} (h : d ≠ 0) (hd : d.natAbs < 2 ^ n) : (gc u d).natAbs < 2 ^ n := by
  have h1 : Nat.gcd u.natAbs d.natAbs ≤ d.natAbs := Nat.gcd_le_right _ (by omega)
  unfold gc
  split <;> omega
/-! ### // by any divisor that is not 0 -/
def CDivX (_ j : Int) : Prop := j ≠ 0 ∧ j.natAbs.log2 < 9000
theorem op_fdivX {X : Cx} : OpR X (binaryOp .FloorDiv) (rI CDivX fun i j => .int (i.fdiv j)) := opI fun i j _ _ _ _ _ hc q => floordiv_int hc.1 q (.inl (PyProof.noPylong_of_log2 hc.2))
theorem div_x {i j : Int} {b : Nat} (h : j ≠ 0) (hb : j.natAbs < 2 ^ b) (h0 : 0 < b) (h9 : b ≤ 9000) : CDivX i j := ⟨h, Nat.lt_of_lt_of_le (PySem.Flt.log2_lt_of h0 hb) h9⟩
/-! ### a fraction as an object -/
def flds (t b : Int) : List (Str × V) := [("top", .int t), ("bottom", .int b)]
theorem ne_tb : ¬ (("bottom" : Str) = "top") := by decide +kernel
theorem ne_bt : ¬ (("top" : Str) = "bottom") := by decide +kernel
theorem flds_top {t b : Int} : (flds t b).lookup ("top" : Str) = some (V.int t) := by
  unfold flds
  rw [List.lookup_cons, beq_self_eq_true]
theorem flds_bot {t b : Int} : (flds t b).lookup ("bottom" : Str) = some (V.int b) := by
  unfold flds
  rw [List.lookup_cons]
  rw [show (("bottom" : Str) == "top") = false from beq_false_of_ne ne_tb, List.lookup_cons, beq_self_eq_true]
theorem flds_put {t b : Int} : putF "bottom" (.int b) (putF "top" (.int t) []) = flds t b := by
  show (if ("top" : Str) = "bottom" then [(("top" : Str), V.int b)] else (("top" : Str), V.int t) :: putF "bottom" (V.int b) []) = _
  rw [if_neg ne_bt]
  rfl
theorem flds_no {t b : Int} {m : Str} (h1 : ¬ m = "top") (h2 : ¬ m = "bottom") : (flds t b).lookup m = none := by
  unfold flds
  rw [List.lookup_cons, show (m == ("top" : Str)) = false from beq_false_of_ne h1, List.lookup_cons, show (m == ("bottom" : Str)) = false from beq_false_of_ne h2]
  rfl
/-- v is a fraction of the class at C with this top and bottom -/
def RatP (C : Addr) (t b : Int) : LP.PV := fun v H => ∃ a dx, v = .ref a ∧ H a = some (.ins C dx (flds t b))
theorem stb_rat {C : Addr} {t b : Int} : LP.Stb (RatP C t b) := fun _ _ _ g ⟨a, dx, e, h⟩ => ⟨a, dx, e, g _ _ h⟩
/-! ### is it an integer -/
def intV : V → Bool
  | .int _ => true
  | _ => false
theorem intV_int {x : V} (h : intV x = true) : ∃ u, x = .int u := by
  cases x <;> first | exact ⟨_, rfl⟩ | cases h
/-- what isinstance says of a value, for int and bool -/
def KI (K : PySem.W.Frag) (H : Hp) (x : V) : Prop := ∃ t b1 b2, TyX K H x t ∧ PySem.W.kitOne K t (.type "int") = some b1 ∧ PySem.W.kitOne K t (.type "bool") = some b2 ∧ (b1 && !b2) = intV x ∧ (b1 = true → (∃ u, x = .int u) ∨ ∃ b, x = .bl b)
theorem ki_int {K : PySem.W.Frag} {H : Hp} (u : Int) : KI K H (.int u) := ⟨_, true, false, .base (.int u), kit_ty (by decide +kernel), kit_ty (by decide +kernel), rfl, fun _ => .inl ⟨u, rfl⟩⟩
theorem ki_non {K : PySem.W.Frag} {H : Hp} : KI K H .non := ⟨_, false, false, .base .non, kit_ty (by decide +kernel), kit_ty (by decide +kernel), rfl, fun h => Bool.noConfusion h⟩
theorem ki_bl {K : PySem.W.Frag} {H : Hp} (b : Bool) : KI K H (.bl b) := ⟨_, true, true, .base (.bl b), kit_ty (by decide +kernel), kit_ty (by decide +kernel), rfl, fun _ => .inr ⟨b, rfl⟩⟩
theorem ki_str {K : PySem.W.Frag} {H : Hp} (x : Str) : KI K H (.str x) := ⟨_, false, false, .base (.str x), kit_ty (by decide +kernel), kit_ty (by decide +kernel), rfl, fun h => Bool.noConfusion h⟩
theorem ki_lst {K : PySem.W.Frag} {H : Hp} {a : Addr} {xs : List V} (e : H a = some (.lst xs)) : KI K H (.ref a) := ⟨_, false, false, .base (.lst e), kit_ty (by decide +kernel), kit_ty (by decide +kernel), rfl, fun h => Bool.noConfusion h⟩
theorem ki_tup {K : PySem.W.Frag} {H : Hp} {a : Addr} {xs : List V} (e : H a = some (.tup xs)) : KI K H (.ref a) := ⟨_, false, false, .base (.tup e), kit_ty (by decide +kernel), kit_ty (by decide +kernel), rfl, fun h => Bool.noConfusion h⟩
theorem ki_dK {K : PySem.W.Frag} {H : Hp} {a : Addr} {kvs : List (Key × V)} (e : H a = some (.dK kvs)) : KI K H (.ref a) := ⟨_, false, false, .base (.dK e), kit_ty (by decide +kernel), kit_ty (by decide +kernel), rfl, fun h => Bool.noConfusion h⟩
/-- what isinstance says of a value, for the class at C: r -/
def KR (K : PySem.W.Frag) (C : Addr) (H : Hp) (x : V) (r : Bool) : Prop := ∃ t, TyX K H x t ∧ PySem.W.kitOne K t (.ref C) = some r
def spInt (K : PySem.W.Frag) : Sp := fun vs H Q _ => ∃ x, vs = [x] ∧ KI K H x ∧ Q (.bl (intV x)) H
/-- what stands of the class in the written part -/
structure RTx (K : PySem.W.Frag) (mg : Str → Option Value) (C CI CQ : Addr) : Prop where
  cl : Cls K C
  nT : NoAttr K C "top"
  nB : NoAttr K C "bottom"
  gR : mg "Ratio" = some (.ref C)
  gI : mg "InvalidRatio" = some (.ref CI)
  xI : PySem.W.excIn K CI [.type "ValueError", .type "Exception", .type "BaseException", .type "object"] "ValueError.__new__" = true
  kI : PySem.W.keepIn K (.ref CI) = true
  bI : PySem.W.subIn K (.ref CI) (.type "BaseException") = some true
  tI : PySem.W.typeIn K (.ref CI) = some (.type "type")
  gQ : mg "NoQuotient" = some (.ref CQ)
  xQ : PySem.W.excIn K CQ [.type "ValueError", .type "Exception", .type "BaseException", .type "object"] "ValueError.__new__" = true
  kQ : PySem.W.keepIn K (.ref CQ) = true
  bQ : PySem.W.subIn K (.ref CQ) (.type "BaseException") = some true
  tQ : PySem.W.typeIn K (.ref CQ) = some (.type "type")
  ha : PySem.W.findIn K (.ref C) "__class__" = some (some (.builtin "object.__class__"))
  hn : PySem.W.specialIn K (.builtin "object.__class__") "__get__" = some (some (.builtin "getset_descriptor.__get__"))
  ht : PySem.W.takesIn K (.builtin "object.__class__") = some true
  hm : PySem.W.mroIn K C (.type "object") = some true
  kInt : PySem.W.kitOne K (.ref C) (.type "int") = some false
  kBool : PySem.W.kitOne K (.ref C) (.type "bool") = some false
  kR : PySem.W.kitOne K (.ref C) (.ref C) = some true
  kOf : ∀ n ∈ ["NoneType", "bool", "int", "str", "list", "tuple", "dict"], PySem.W.kitOne K (.type n) (.ref C) = some false
  gcd : mg "gcd" = some (.builtin "math.gcd")
  isi : mg "isinstance" = none
  int : mg "int" = none
  bool : mg "bool" = none
theorem RTx.ty {K : PySem.W.Frag} {mg : Str → Option Value} {C CI CQ : Addr} (T : RTx K mg C CI CQ) {H : Hp} {a dx : Addr} {fs : List (Str × V)} (e : H a = some (.ins C dx fs)) : TyOf K H (.ref a) (.ref C) := .ins e T.cl T.ha T.hn T.ht T.hm
theorem RTx.ki {K : PySem.W.Frag} {mg : Str → Option Value} {C CI CQ : Addr} (T : RTx K mg C CI CQ) {H : Hp} {a dx : Addr} {fs : List (Str × V)} (e : H a = some (.ins C dx fs)) : KI K H (.ref a) := ⟨_, false, false, .base (T.ty e), T.kInt, T.kBool, rfl, fun h => Bool.noConfusion h⟩
theorem RTx.kr {K : PySem.W.Frag} {mg : Str → Option Value} {C CI CQ : Addr} (T : RTx K mg C CI CQ) {H : Hp} {a dx : Addr} {fs : List (Str × V)} (e : H a = some (.ins C dx fs)) : KR K C H (.ref a) true := ⟨_, .base (T.ty e), T.kR⟩
end RX
/-! Lowest terms: mathematics. -/
namespace RX
theorem gc_dvd_u (u d : Int) : gc u d ∣ u := by
  have h : ((Nat.gcd u.natAbs d.natAbs : Nat) : Int) ∣ u := Int.ofNat_dvd_left.mpr (Nat.gcd_dvd_left _ _)
  unfold gc
  split
  · exact Int.neg_dvd.mpr h
  · exact h
theorem gc_dvd_d (u d : Int) : gc u d ∣ d := by
  have h : ((Nat.gcd u.natAbs d.natAbs : Nat) : Int) ∣ d := Int.ofNat_dvd_left.mpr (Nat.gcd_dvd_right _ _)
  unfold gc
  split
  · exact Int.neg_dvd.mpr h
  · exact h
theorem u_eq (u d : Int) : gc u d * tp u d = u := by
  unfold tp
  rw [Int.fdiv_eq_ediv_of_dvd (gc_dvd_u u d), Int.mul_ediv_cancel' (gc_dvd_u u d)]
theorem d_eq (u d : Int) : gc u d * bt u d = d := by
  unfold bt
  rw [Int.fdiv_eq_ediv_of_dvd (gc_dvd_d u d), Int.mul_ediv_cancel' (gc_dvd_d u d)]
theorem gc_abs (u d : Int) : (gc u d).natAbs = Nat.gcd u.natAbs d.natAbs := by
  unfold gc
  split <;> omega
theorem bt_pos {u d : Int} (h : d ≠ 0) : 0 < bt u d := by
  have e := d_eq u d
  have g := gcd_pos (u := u) h
  rcases Int.lt_trichotomy (bt u d) 0 with z | z | z
  · by_cases hd : d < 0
    · have c : gc u d < 0 := by unfold gc; rw [if_pos hd]; omega
      have := Int.mul_pos_of_neg_of_neg c z
      omega
    · have c : 0 < gc u d := by unfold gc; rw [if_neg hd]; omega
      have := Int.mul_neg_of_pos_of_neg c z
      omega
  · rw [z, Int.mul_zero] at e
    exact absurd e.symm h
  · exact z
theorem low_cop {u d : Int} (h : d ≠ 0) : Nat.Coprime (tp u d).natAbs (bt u d).natAbs := by
  have g := gcd_pos (u := u) h
  have e1 : (gc u d).natAbs * (tp u d).natAbs = u.natAbs := by rw [← Int.natAbs_mul, u_eq]
  have e2 : (gc u d).natAbs * (bt u d).natAbs = d.natAbs := by rw [← Int.natAbs_mul, d_eq]
  rw [gc_abs] at e1 e2
  have e : Nat.gcd (Nat.gcd u.natAbs d.natAbs * (tp u d).natAbs) (Nat.gcd u.natAbs d.natAbs * (bt u d).natAbs) = Nat.gcd u.natAbs d.natAbs := by rw [e1, e2]
  rw [Nat.gcd_mul_left] at e
  have e' : Nat.gcd u.natAbs d.natAbs * Nat.gcd (tp u d).natAbs (bt u d).natAbs = Nat.gcd u.natAbs d.natAbs * 1 := by rw [e, Nat.mul_one]
  exact Nat.eq_of_mul_eq_mul_left g e'
theorem low_cross (u d : Int) : tp u d * d = u * bt u d := by
  have e1 := u_eq u d
  have e2 := d_eq u d
  generalize gc u d = c at *
  generalize tp u d = t at *
  generalize bt u d = b at *
  subst e1 e2
  rw [Int.mul_comm c t, Int.mul_assoc]
/-- two pairs in lowest terms with the same quotient are the same -/
theorem low_uniq {t b t' b' : Int} (hb : 0 < b) (hb' : 0 < b') (c : Nat.Coprime t.natAbs b.natAbs) (c' : Nat.Coprime t'.natAbs b'.natAbs) (e : t * b' = t' * b) : t = t' ∧ b = b' := by
  have en : t.natAbs * b'.natAbs = t'.natAbs * b.natAbs := by rw [← Int.natAbs_mul, ← Int.natAbs_mul, e]
  have h1 : b.natAbs ∣ b'.natAbs := c.symm.dvd_of_dvd_mul_left (en ▸ Nat.dvd_mul_left _ _)
  have h2 : b'.natAbs ∣ b.natAbs := c'.symm.dvd_of_dvd_mul_left (en ▸ Nat.dvd_mul_left _ _)
  have h3 := Nat.dvd_antisymm h1 h2
  have eb : b = b' := by omega
  subst eb
  exact ⟨Int.eq_of_mul_eq_mul_right (by omega) e, rfl⟩
theorem low_eq {u d u' d' : Int} (h : d ≠ 0) (h' : d' ≠ 0) (e : u * d' = u' * d) : tp u d = tp u' d' ∧ bt u d = bt u' d' := by
  refine low_uniq (bt_pos h) (bt_pos h') (low_cop h) (low_cop h') ?_
  have x := low_cross u d
  have x' := low_cross u' d'
  have k : (tp u d * bt u' d') * (d * d') = (tp u' d' * bt u d) * (d * d') := by
    calc (tp u d * bt u' d') * (d * d') = (tp u d * d) * (bt u' d' * d') := by ac_rfl
      _ = (u * bt u d) * (bt u' d' * d') := by rw [x]
      _ = (u * d') * (bt u d * bt u' d') := by ac_rfl
      _ = (u' * d) * (bt u d * bt u' d') := by rw [e]
      _ = (u' * bt u' d') * (bt u d * d) := by ac_rfl
      _ = (tp u' d' * d') * (bt u d * d) := by rw [x']
      _ = (tp u' d' * bt u d) * (d * d') := by ac_rfl
  exact Int.eq_of_mul_eq_mul_right (Int.mul_ne_zero h h') k
theorem low_iff {u d u' d' : Int} (h : d ≠ 0) (h' : d' ≠ 0) : (tp u d = tp u' d' ∧ bt u d = bt u' d') ↔ u * d' = u' * d := by
  refine ⟨fun ⟨a, b⟩ => ?_, low_eq h h'⟩
  have x := low_cross u d
  have x' := low_cross u' d'
  rw [a, b] at x
  have nb : bt u' d' ≠ 0 := Int.ne_of_gt (bt_pos h')
  refine Int.eq_of_mul_eq_mul_right nb ?_
  calc u * d' * bt u' d' = (u * bt u' d') * d' := by ac_rfl
    _ = (tp u' d' * d) * d' := by rw [← x]
    _ = (tp u' d' * d') * d := by ac_rfl
    _ = u' * bt u' d' * d := by rw [x']
    _ = u' * d * bt u' d' := by ac_rfl
theorem tp_le (u d : Int) : (tp u d).natAbs ≤ u.natAbs := by
  by_cases z : gc u d = 0
  · unfold tp
    rw [z, Int.fdiv_zero]
    exact Nat.zero_le _
  · have e : (gc u d).natAbs * (tp u d).natAbs = u.natAbs := by rw [← Int.natAbs_mul, u_eq]
    rw [← e]
    exact Nat.le_mul_of_pos_left _ (by omega)
theorem bt_le (u d : Int) : (bt u d).natAbs ≤ d.natAbs := by
  by_cases z : gc u d = 0
  · unfold bt
    rw [z, Int.fdiv_zero]
    exact Nat.zero_le _
  · have e : (gc u d).natAbs * (bt u d).natAbs = d.natAbs := by rw [← Int.natAbs_mul, d_eq]
    rw [← e]
    exact Nat.le_mul_of_pos_left _ (by omega)
theorem tp_zero {u d : Int} (h : d ≠ 0) : tp u d = 0 ↔ u = 0 := by
  have e := u_eq u d
  constructor
  · intro z
    rw [z, Int.mul_zero] at e
    exact e.symm
  · intro z
    rw [z] at e ⊢
    exact (Int.mul_eq_zero.mp e).resolve_left (gc_ne h)
/-- signs: the order of two fractions by their lowest terms, or by the written ones -/
theorem low_lt {u d u' d' : Int} (h : d ≠ 0) (h' : d' ≠ 0) : (tp u d * bt u' d' < tp u' d' * bt u d) ↔ (u * d' - u' * d) * d * d' < 0 := by
  have b := bt_pos (u := u) h
  have b' := bt_pos (u := u') h'
  have x := u_eq u d
  have y := d_eq u d
  have x' := u_eq u' d'
  have y' := d_eq u' d'
  have c := gc_ne (u := u) h
  have c' := gc_ne (u := u') h'
  generalize gc u d = g at *
  generalize tp u d = t at *
  generalize bt u d = s at *
  generalize gc u' d' = g' at *
  generalize tp u' d' = t' at *
  generalize bt u' d' = s' at *
  subst x y x' y'
  have e : (g * t * (g' * s') - g' * t' * (g * s)) * (g * s) * (g' * s') = (t * s' - t' * s) * (g * g * (g' * g') * (s * s')) := by
    rw [Int.sub_mul, Int.sub_mul, Int.sub_mul]
    congr 1 <;> ac_rfl
  rw [e]
  have pp : ∀ z : Int, z ≠ 0 → 0 < z * z := fun z hz => by
    rcases Int.lt_or_gt_of_ne hz with q | q
    · exact Int.mul_pos_of_neg_of_neg q q
    · exact Int.mul_pos q q
  have pos : 0 < g * g * (g' * g') * (s * s') := Int.mul_pos (Int.mul_pos (pp g c) (pp g' c')) (Int.mul_pos b b')
  constructor
  · intro q
    exact Int.mul_neg_of_neg_of_pos (by omega) pos
  · intro q
    by_cases z : t * s' < t' * s
    · exact z
    · have := Int.mul_nonneg (show 0 ≤ t * s' - t' * s by omega) (Int.le_of_lt pos)
      omega
end RX
/-! Fractions as texts: mathematics over lists of codes. -/
namespace TX
open PySem PySem.NumText RX
open TL (numL spl par)
abbrev val : List Nat → Nat := NumText.digitsVal
def isD (c : Nat) : Bool := decide (48 ≤ c) && decide (c ≤ 57)
def allD (w : List Nat) : Bool := w.all isD
theorem allD_iff {w : List Nat} : allD w = true ↔ AllDigits w := by
  unfold allD AllDigits
  rw [List.all_eq_true]
  constructor
  · intro h c hc
    have := h c hc
    unfold isD at this
    rw [Bool.and_eq_true, decide_eq_true_eq, decide_eq_true_eq] at this
    exact this
  · intro h c hc
    have := h c hc
    unfold isD
    rw [Bool.and_eq_true, decide_eq_true_eq, decide_eq_true_eq]
    exact this
theorem snoc_cases (w : List Nat) (h : w ≠ []) : ∃ v c, w = v ++ [c] := ⟨w.dropLast, w.getLast h, (List.dropLast_concat_getLast h).symm⟩
theorem num_head : ∀ (n : Nat), 0 < n → (numL n).head? ≠ some 48 := by
  intro n
  induction n using Nat.strongRecOn with
  | _ n ih =>
    intro hn
    by_cases h : n < 10
    · rw [TL.numL_lt h]
      intro z
      have : 48 + n = 48 := Option.some.inj z
      omega
    · rw [TL.numL_step (by omega)]
      have q := ih (n / 10) (by omega) (by omega)
      cases e : numL (n / 10) with
      | nil => exact absurd e (TL.numL_ne _)
      | cons c r =>
        rw [e] at q
        exact q
theorem num_zero : numL 0 = [48] := TL.numL_lt (by decide)
/-- a text of digits is that of its number exactly if it is 0 or begins with another digit -/
theorem canon : ∀ (w : List Nat), AllDigits w → w ≠ [] → (w = [48] ∨ w.head? ≠ some 48) → numL (val w) = w := by
  intro w
  generalize hn : w.length = n
  induction n using Nat.strongRecOn generalizing w with
  | _ n ih =>
    intro hd hne hc
    obtain ⟨v, c, rfl⟩ := snoc_cases w hne
    have dc := hd c (by simp)
    have dv : AllDigits v := fun x hx => hd x (by simp [hx])
    show numL (NumText.digitsVal (v ++ [c])) = v ++ [c]
    rw [digitsVal_snoc]
    cases v with
    | nil =>
      show numL (0 * 10 + (c - 48)) = [c]
      rw [show 0 * 10 + (c - 48) = c - 48 by omega, TL.numL_lt (by omega), show 48 + (c - 48) = c by omega]
    | cons a r =>
      have hh : (a :: r).head? ≠ some 48 := by
        rcases hc with e | e
        · exact absurd (congrArg List.length e) (by simp)
        · exact e
      have q := ih (a :: r).length (by simp at hn; simp; omega) (a :: r) rfl dv (by simp) (.inr hh)
      have pos : 0 < NumText.digitsVal (a :: r) := by
        rcases Nat.eq_zero_or_pos (NumText.digitsVal (a :: r)) with z | z
        · have q' : numL (NumText.digitsVal (a :: r)) = a :: r := q
          rw [z, num_zero] at q'
          rw [← q'] at hh
          exact absurd rfl hh
        · exact z
      have q' : numL (NumText.digitsVal (a :: r)) = a :: r := q
      generalize NumText.digitsVal (a :: r) = m at *
      rw [TL.numL_step (by omega), show (m * 10 + (c - 48)) / 10 = m by omega, show 48 + (m * 10 + (c - 48)) % 10 = c by omega, q']
theorem canon_num (n : Nat) : numL n = [48] ∨ (numL n).head? ≠ some 48 := by
  rcases Nat.eq_zero_or_pos n with z | z
  · rw [z]; exact .inl num_zero
  · exact .inr (num_head n z)
/-! ### whole numbers -/
def intL (i : Int) : List Nat := if i < 0 then 45 :: numL i.natAbs else numL i.natAbs
def stripm : List Nat → List Nat
  | [] => []
  | c :: r => if c = 45 then r else c :: r
def sval (w : List Nat) : Int := if w.head? = some 45 then -((val w.tail : Nat) : Int) else ((val w : Nat) : Int)
theorem sval_int (i : Int) : sval (intL i) = i := by
  unfold intL sval
  by_cases h : i < 0
  · rw [if_pos h]
    show -((val (numL i.natAbs) : Nat) : Int) = i
    rw [show val (numL i.natAbs) = i.natAbs from TL.numL_val _]
    omega
  · rw [if_neg h, if_neg]
    · rw [show val (numL i.natAbs) = i.natAbs from TL.numL_val _]
      omega
    · intro z
      have m : 45 ∈ numL i.natAbs := List.mem_of_mem_head? z
      have := TL.numL_digits i.natAbs 45 m
      omega
theorem int_free {i : Int} : 47 ∉ intL i := by
  unfold intL
  split
  · intro h
    rcases List.mem_cons.mp h with h | h
    · omega
    · exact TL.numL_free (.inl (by decide)) h
  · exact TL.numL_free (.inl (by decide))
def whole (w : List Nat) : Bool := !(decide (w = []) || decide (60 < w.length) || !allD w) && (decide (w = [48]) || !decide (w.head? = some 48))
def digs (w : List Nat) : Bool := decide (1 ≤ w.length) && decide (w.length ≤ 60) && allD w
theorem whole_iff {w : List Nat} : whole w = true ↔ digs w = true ∧ (w = [48] ∨ w.head? ≠ some 48) := by
  unfold whole digs
  simp only [Bool.and_eq_true, Bool.or_eq_true, Bool.not_eq_true', Bool.or_eq_false_iff, decide_eq_true_eq, decide_eq_false_iff_not, Bool.not_eq_false']
  constructor
  · rintro ⟨⟨⟨h1, h2⟩, h3⟩, h4⟩
    refine ⟨⟨⟨?_, by omega⟩, h3⟩, h4⟩
    rcases w with _ | ⟨a, r⟩
    · exact absurd rfl h1
    · simp
  · rintro ⟨⟨⟨h1, h2⟩, h3⟩, h4⟩
    refine ⟨⟨⟨?_, by omega⟩, h3⟩, h4⟩
    rintro rfl
    simp at h1
theorem digs_ne {w : List Nat} (h : digs w = true) : w ≠ [] := by
  rintro rfl
  simp [digs] at h
theorem digs_all {w : List Nat} (h : digs w = true) : AllDigits w := by
  unfold digs at h
  rw [Bool.and_eq_true] at h
  exact allD_iff.mp h.2
theorem digs_free {w : List Nat} (h : digs w = true) : 47 ∉ w := fun m => by
  have := digs_all h 47 m
  omega
/-- a text whose digits are told is the text of its number exactly if -/
theorem int_back {p : List Nat} (h : digs (stripm p) = true) : intL (sval p) = p ↔ (whole (stripm p) = true ∧ p ≠ [45, 48]) := by
  cases p with
  | nil => simp [stripm, digs] at h
  | cons c r =>
    by_cases hc : c = 45
    · subst hc
      have e1 : stripm (45 :: r) = r := rfl
      rw [e1] at h ⊢
      have e2 : sval (45 :: r) = -((val r : Nat) : Int) := rfl
      rw [e2, whole_iff]
      have hr := digs_ne h
      have da := digs_all h
      constructor
      · intro z
        unfold intL at z
        split at z
        · rename_i neg
          injection z with _ z
          have k : ((-((val r : Nat) : Int)).natAbs) = val r := by omega
          rw [k] at z
          refine ⟨⟨h, ?_⟩, ?_⟩
          · rw [← z]; exact canon_num _
          · intro q
            injection q with _ q
            rw [q] at neg
            exact absurd neg (by decide)
        · rename_i neg
          have k : val r = 0 := by omega
          rw [k] at z
          have z' : numL 0 = 45 :: r := z
          rw [num_zero] at z'
          injection z' with z' _
          exact absurd z' (by decide)
      · rintro ⟨⟨_, hcan⟩, hno⟩
        have cn := canon r da hr hcan
        have pos : 0 < val r := by
          rcases Nat.eq_zero_or_pos (val r) with z | z
          · rw [z, num_zero] at cn
            exact absurd (by rw [← cn]) hno
          · exact z
        unfold intL
        rw [if_pos (by omega), show (-((val r : Nat) : Int)).natAbs = val r by omega, cn]
    · have e1 : stripm (c :: r) = c :: r := if_neg hc
      rw [e1] at h ⊢
      have e2 : sval (c :: r) = ((val (c :: r) : Nat) : Int) := if_neg (fun z => hc (Option.some.inj z))
      rw [e2, whole_iff]
      have da := digs_all h
      have e3 : intL ((val (c :: r) : Nat) : Int) = numL (val (c :: r)) := by
        unfold intL
        rw [if_neg (by omega), Int.natAbs_natCast]
      rw [e3]
      constructor
      · intro z
        refine ⟨⟨h, ?_⟩, ?_⟩
        · have k := canon_num (val (c :: r))
          rw [z] at k
          exact k
        · intro q
          injection q with q _
          exact hc q
      · rintro ⟨⟨_, hcan⟩, _⟩
        exact canon _ da (by simp) hcan
/-! ### the two readings -/
def ratL (t b : Int) : List Nat := if b = 1 then intL t else intL t ++ 47 :: intL b
def cut (x : List Nat) : List Nat × Bool × List Nat := match par [47] [] x with
  | some (p, q) => (p, true, q)
  | none => (x, false, [])
def progR (x : List Nat) : Option (Int × Int) :=
  let h := (cut x).1
  let b := if (cut x).2.1 then (cut x).2.2 else [49]
  if !digs (stripm h) || !digs b then none
  else if (val b : Int) = 0 then none
  else if ratL (tp (sval h) (val b)) (bt (sval h) (val b)) = x then some (tp (sval h) (val b), bt (sval h) (val b)) else none
def lawR (x : List Nat) : Option (Int × Int) :=
  let ws := spl [47] 0 [] x
  let w0 := ws.headD []
  if decide (2 < ws.length) || !whole (stripm w0) || decide (w0 = [45, 48]) then none
  else if ws.length = 1 then some (sval w0, 1)
  else
    let w1 := ws.getD 1 []
    if !whole w1 || (decide (w1 = [48]) || decide (w1 = [49])) then none
    else if Nat.gcd (sval w0).natAbs (val w1) ≠ 1 then none
    else some (sval w0, (val w1 : Int))
theorem tp_one (u : Int) : tp u 1 = u := by
  have e := u_eq u 1
  have g : gc u 1 = 1 := by
    unfold gc
    rw [if_neg (by decide), show (1 : Int).natAbs = 1 from rfl, Nat.gcd_one_right]
    rfl
  rw [g, Int.one_mul] at e
  exact e
theorem bt_one (u : Int) : bt u 1 = 1 := by
  have e := d_eq u 1
  have g : gc u 1 = 1 := by
    unfold gc
    rw [if_neg (by decide), show (1 : Int).natAbs = 1 from rfl, Nat.gcd_one_right]
    rfl
  rw [g, Int.one_mul] at e
  exact e
theorem low_same {u d : Int} (h : 0 < d) (g : Nat.gcd u.natAbs d.natAbs = 1) : tp u d = u ∧ bt u d = d := by
  have k : gc u d = 1 := by
    unfold gc
    rw [if_neg (by omega), g]
    rfl
  have e1 := u_eq u d
  have e2 := d_eq u d
  rw [k, Int.one_mul] at e1 e2
  exact ⟨e1, e2⟩
theorem split_first {x : List Nat} (h : 47 ∈ x) : ∃ p q, x = p ++ 47 :: q ∧ 47 ∉ p := by
  induction x with
  | nil => simp at h
  | cons c r ih =>
    by_cases hc : c = 47
    · exact ⟨[], r, by rw [hc]; rfl, by simp⟩
    · obtain ⟨p, q, e, n⟩ := ih ((List.mem_cons.mp h).resolve_left fun z => hc z.symm)
      exact ⟨c :: p, q, by rw [e]; rfl, fun z => by
        rcases List.mem_cons.mp z with z | z
        · exact hc z.symm
        · exact n z⟩
theorem app_uniq : ∀ {p p' q q' : List Nat}, 47 ∉ p → 47 ∉ p' → p ++ 47 :: q = p' ++ 47 :: q' → p = p' ∧ q = q'
  | [], [], _, _, _, _, e => by
    injection e with _ e
    exact ⟨rfl, e⟩
  | [], c :: r, _, _, _, h, e => by
    injection e with e _
    exact absurd (by rw [e]; exact List.mem_cons_self) h
  | c :: r, [], _, _, h, _, e => by
    injection e with e _
    exact absurd (by rw [← e]; exact List.mem_cons_self) h
  | c :: r, c' :: r', _, _, h, h', e => by
    injection e with e1 e2
    obtain ⟨a, b⟩ := app_uniq (fun z => h (List.mem_cons_of_mem _ z)) (fun z => h' (List.mem_cons_of_mem _ z)) e2
    exact ⟨by rw [e1, a], b⟩
theorem spl_len {x : List Nat} (h : 47 ∈ x) : 2 ≤ (spl [47] 0 [] x).length := by
  obtain ⟨p, q, rfl, n⟩ := split_first h
  have e : spl [47] 0 [] (p ++ ([47] ++ q)) = ([] ++ p) :: spl [47] 0 [] q := TL.spl_part1 n
  rw [show p ++ 47 :: q = p ++ ([47] ++ q) from rfl, e]
  have : 1 ≤ (spl [47] 0 [] q).length := by
    by_cases m : 47 ∈ q
    · obtain ⟨p', q', rfl, n'⟩ := split_first m
      have e : spl [47] 0 [] (p' ++ ([47] ++ q')) = ([] ++ p') :: spl [47] 0 [] q' := TL.spl_part1 n'
      rw [show p' ++ 47 :: q' = p' ++ ([47] ++ q') from rfl, e]
      simp
    · rw [TL.spl_last1 m]
      simp
  simp only [List.length_cons]
  omega
theorem whole_digs {w : List Nat} (h : whole w = true) : digs w = true := (whole_iff.mp h).1
theorem read_same (x : List Nat) : progR x = lawR x := by
  by_cases h : 47 ∈ x
  · obtain ⟨p, q, rfl, n⟩ := split_first h
    have ec : cut (p ++ 47 :: q) = (p, true, q) := by
      unfold cut
      rw [show p ++ 47 :: q = p ++ ([47] ++ q) from rfl, TL.par_part1 n, List.nil_append]
    have es : spl [47] 0 [] (p ++ 47 :: q) = p :: spl [47] 0 [] q := by
      rw [show p ++ 47 :: q = p ++ ([47] ++ q) from rfl, TL.spl_part1 n, List.nil_append]
    by_cases m : 47 ∈ q
    · have l2 := spl_len m
      have e1 : lawR (p ++ 47 :: q) = none := by
        unfold lawR
        rw [es]
        refine if_pos ?_
        rw [decide_eq_true (by simp only [List.length_cons]; omega)]
        rfl
      rw [e1]
      unfold progR
      rw [ec]
      refine if_pos ?_
      show (!digs (stripm p) || !digs q) = true
      cases e : digs q with
      | false => rw [Bool.not_false, Bool.or_true]
      | true => exact absurd m (digs_free e)
    · have eq1 : spl [47] 0 [] q = [q] := by
        rw [TL.spl_last1 m, List.nil_append]
      have el : lawR (p ++ 47 :: q) = if !whole (stripm p) || decide (p = [45, 48]) then none else if !whole q || (decide (q = [48]) || decide (q = [49])) then none else if Nat.gcd (sval p).natAbs (val q) ≠ 1 then none else some (sval p, (val q : Int)) := by
        unfold lawR
        rw [es, eq1]
        rfl
      have ep : progR (p ++ 47 :: q) = if !digs (stripm p) || !digs q then none else if (val q : Int) = 0 then none else if ratL (tp (sval p) (val q)) (bt (sval p) (val q)) = p ++ 47 :: q then some (tp (sval p) (val q), bt (sval p) (val q)) else none := by
        unfold progR
        rw [ec]
        rfl
      rw [el, ep]
      cases e1 : digs (stripm p) with
      | false =>
        have : whole (stripm p) = false := by
          cases e : whole (stripm p) with
          | false => rfl
          | true => rw [whole_digs e] at e1; exact e1
        rw [this]
        rfl
      | true =>
        cases e2 : digs q with
        | false =>
          have : whole q = false := by
            cases e : whole q with
            | false => rfl
            | true => rw [whole_digs e] at e2; exact e2
          rw [this]
          show none = if (!whole (stripm p) || decide (p = [45, 48])) = true then none else none
          split <;> rfl
        | true =>
          have b1 := int_back e1
          have qa := digs_all e2
          have qn := digs_ne e2
          by_cases good : (whole (stripm p) = true ∧ p ≠ [45, 48]) ∧ (whole q = true ∧ q ≠ [48] ∧ q ≠ [49]) ∧ Nat.gcd (sval p).natAbs (val q) = 1
          · obtain ⟨⟨g1, g2⟩, ⟨g3, g4, g5⟩, g6⟩ := good
            have cq := canon q qa qn (whole_iff.mp g3).2
            have v0 : val q ≠ 0 := fun z => by
              rw [z, num_zero] at cq
              exact g4 cq.symm
            have v1 : val q ≠ 1 := fun z => by
              rw [z, TL.numL_lt (by decide)] at cq
              exact g5 cq.symm
            have lw := low_same (u := sval p) (d := (val q : Int)) (by omega) (by rw [Int.natAbs_natCast]; exact g6)
            rw [g1, g3, lw.1, lw.2]
            rw [decide_eq_false g2, decide_eq_false g4, decide_eq_false g5]
            have er : ratL (sval p) (val q : Int) = p ++ 47 :: q := by
              unfold ratL
              rw [if_neg (by omega), b1.mpr ⟨g1, g2⟩]
              have : intL ((val q : Nat) : Int) = q := by
                unfold intL
                rw [if_neg (by omega), Int.natAbs_natCast, cq]
              rw [this]
            rw [er, if_pos rfl, if_neg (by omega : ¬ ((val q : Nat) : Int) = 0)]
            show (if (!true || !true) = true then none else some (sval p, (val q : Int))) = if (!true || false) = true then none else if (!true || (false || false)) = true then none else if Nat.gcd (sval p).natAbs (val q) ≠ 1 then none else some (sval p, (val q : Int))
            rw [if_neg (by decide), if_neg (by decide), if_neg (by decide), if_neg (fun z => z g6)]
          · have lz : (if !whole (stripm p) || decide (p = [45, 48]) then none else if !whole q || (decide (q = [48]) || decide (q = [49])) then none else if Nat.gcd (sval p).natAbs (val q) ≠ 1 then none else some (sval p, (val q : Int))) = (none : Option (Int × Int)) := by
              split
              · rfl
              · rename_i c1
                split
                · rfl
                · rename_i c2
                  split
                  · rfl
                  · rename_i c3
                    exfalso
                    simp only [Bool.or_eq_true, Bool.not_eq_true', decide_eq_true_eq, not_or] at c1 c2
                    exact good ⟨⟨by simpa using c1.1, c1.2⟩, ⟨by simpa using c2.1, c2.2.1, c2.2.2⟩, Decidable.not_not.mp c3⟩
            rw [lz]
            refine if_neg (by decide) |>.trans ?_
            split
            · rfl
            · rename_i v0
              refine if_neg fun er => good ?_
              have bp := bt_pos (u := sval p) v0
              unfold ratL at er
              split at er
              · exact absurd (by rw [er]; simp) (int_free (i := tp (sval p) (val q)))
              · rename_i b1'
                obtain ⟨e3, e4⟩ := app_uniq int_free n er
                have e5 : sval p = tp (sval p) (val q) := by
                  have := sval_int (tp (sval p) (val q))
                  rw [e3] at this
                  exact this
                have e6 : ((val q : Nat) : Int) = bt (sval p) (val q) := by
                  have := sval_int (bt (sval p) (val q))
                  rw [e4] at this
                  unfold sval at this
                  rw [if_neg (fun z => by have := qa 45 (List.mem_of_mem_head? z); omega)] at this
                  exact this
                have cop := low_cop (u := sval p) v0
                rw [← e5, ← e6, Int.natAbs_natCast] at cop
                have back : intL (sval p) = p := by rw [e5]; exact e3
                refine ⟨b1.mp back, ?_, cop⟩
                have enq : intL (bt (sval p) (val q)) = numL (val q) := by
                  rw [← e6]
                  unfold intL
                  rw [if_neg (by omega), Int.natAbs_natCast]
                rw [enq] at e4
                refine ⟨whole_iff.mpr ⟨e2, ?_⟩, ?_, ?_⟩
                · have := canon_num (val q)
                  rw [e4] at this
                  exact this
                · rintro rfl
                  exact v0 rfl
                · rintro rfl
                  exact b1' (by rw [← e6]; rfl)
  · have ec : cut x = (x, false, []) := by
      unfold cut
      rw [TL.par_none1 h]
    have es : spl [47] 0 [] x = [x] := by
      rw [TL.spl_last1 h, List.nil_append]
    have el : lawR x = if !whole (stripm x) || decide (x = [45, 48]) then none else some (sval x, 1) := by
      unfold lawR
      rw [es]
      rfl
    have ep : progR x = if !digs (stripm x) || !true then none else if ratL (tp (sval x) 1) (bt (sval x) 1) = x then some (tp (sval x) 1, bt (sval x) 1) else none := by
      unfold progR
      rw [ec]
      rfl
    rw [el, ep, tp_one, bt_one]
    cases e1 : digs (stripm x) with
    | false =>
      have : whole (stripm x) = false := by
        cases e : whole (stripm x) with
        | false => rfl
        | true => rw [whole_digs e] at e1; exact e1
      rw [this]
      rfl
    | true =>
      have b1 := int_back e1
      refine (if_neg (by decide)).trans ?_
      show (if intL (sval x) = x then some (sval x, (1 : Int)) else none) = _
      by_cases g : whole (stripm x) = true ∧ x ≠ [45, 48]
      · rw [if_pos (b1.mpr g), g.1, decide_eq_false g.2]
        rfl
      · rw [if_neg fun z => g (b1.mp z)]
        refine (if_pos ?_).symm
        rw [Bool.or_eq_true, Bool.not_eq_true', decide_eq_true_eq]
        by_cases z : x = [45, 48]
        · exact .inr z
        · refine .inl ?_
          cases e : whole (stripm x) with
          | false => rfl
          | true => exact absurd ⟨e, z⟩ g
end TX
set_option maxRecDepth 100000
set_option maxHeartbeats 4000000
set_option exponentiation.threshold 10000
/-! str(x) and repr(x) by a class's own defs. -/
namespace RX
open PySem PySem.Spec PyProof.Rows L2
section
variable {X : Cx} {CX : CXT} {k : Nat} {f C : Addr} {fd : FuncData} {ps : List Str} {sp : Sp} {E : XK}
def rTxtO (C : Addr) (sp : Sp) (E : XK) : List V → Hp → VK → Prop := fun xs H Q => ∃ a dx fs, xs = [.ref a] ∧ H a = some (.ins C dx fs) ∧ sp [.ref a] H (fun v H' => ∃ z, v = .str z ∧ Q (.str z) H') E
theorem txt_back {pins : List (Addr × Obj)} {σ : L2.St} {Q : VK} (r : Value) (s' : Shared) (z : EP X pins σ (fun v H' => ∃ z, v = .str z ∧ Q (.str z) H') r s') : PySem.W.StrBack (EP X pins σ Q) r s' := by
  obtain ⟨w, H', I', rv, y, rfl, q'⟩ := z
  obtain ⟨t, rfl⟩ := rv
  exact ⟨.str y, H', I', ⟨t, rfl⟩, q'⟩
theorem call_strO (F : FnOk X.prog X.w X.K X.mg X.base CX k f fd ps sp) (O : Own X.K C f "__str__") (hr : Room (k + 2) X.A) (hb : Binds X.K fd ps []) (hx : Passes CX X E) : CallR X (.type "str") (rTxtO C sp E) := by
  intro pins s σ H xs us Q I r h
  obtain ⟨a, dx, fs, rfl, ea, q⟩ := h
  obtain ⟨u, rfl, ru⟩ := vals1 r
  cases ru
  obtain ⟨_, _, J⟩ := inst_at I ea
  have r2 := hr.in1.in1
  refine PySem.W.kso_call r2.units0 I.kIn J O.at_ O.fn ?_
  exact wpAny_mono (run_sub (vs := [.ref a]) F r2 rfl hb hx I (.cons rfl .nil) q) (fun r s' z => txt_back r s' z) fun _ _ z => z
theorem call_reprO (F : FnOk X.prog X.w X.K X.mg X.base CX k f fd ps sp) (O : Own X.K C f "__repr__") (hr : Room (k + 1) X.A) (hb : Binds X.K fd ps []) (hx : Passes CX X E) : CallR X (.builtin "repr") (rTxtO C sp E) := by
  intro pins s σ H xs us Q I r h
  obtain ⟨a, dx, fs, rfl, ea, q⟩ := h
  obtain ⟨u, rfl, ru⟩ := vals1 r
  cases ru
  obtain ⟨_, _, J⟩ := inst_at I ea
  obtain ⟨m, hF⟩ := I.fr
  have r2 := hr.in1
  refine PySem.W.repr_K r2.units0 hF I.ok.mod.kin J O.at_ O.fn ?_
  exact wpAny_mono (run_sub (vs := [.ref a]) F r2 rfl hb hx I (.cons rfl .nil) q) (fun r s' z => txt_back r s' z) fun _ _ z => z
end
end RX
set_option maxRecDepth 100000
set_option maxHeartbeats 4000000
set_option exponentiation.threshold 10000
namespace B3
open PySem PySem.Spec PyProof.Rows L2 RX LP SX TX
def top (i : Nat) : Stmt := PySem.Challenge.pw_betweenfaces_k04_numbers_in_order.main.body.getD i (.Pass ⟨0, 0, 0, 0⟩)
abbrev sInit : Stmt := inClass (top 9) 0
abbrev sOf : Stmt := inClass (top 9) 1
abbrev sEq : Stmt := inClass (top 9) 7
abbrev sRepr : Stmt := inClass (top 9) 10
section
variable {σ : L2.St} {H : Hp} {te ta tb : TE} {x v cv : V} {t u : Value} {b c : Bool} {K : PySem.W.Frag}
theorem val_isi (h : Val te σ H x) (ty : TyX K H x t) (k : PySem.W.kitOne K t u = some b) (c : ClsV cv u) : Val (tCB (rIsi K) (tCons te (tCons (tC cv) tNil))) σ H (.bl b) := fun Q q => h _ ⟨x, cv, t, u, b, rfl, c, ty, k, q⟩
theorem val_and (h1 : Val ta σ H (.bl b)) (h2 : b = true → Val tb σ H (.bl c)) : Val (tAndV ta tb) σ H (.bl (b && c)) := fun Q q => h1 _ ⟨b, rfl, by
  cases b with
  | true => exact h2 rfl _ q
  | false => exact q⟩
theorem val_not (h1 : Val ta σ H (.bl b)) : Val (tNotV ta) σ H (.bl (!b)) := fun Q q => h1 _ ⟨b, rfl, q⟩
end
/-- names of built-ins, and the constants of the module -/
structure Bl (mg : Str → Option Value) : Prop where
  abs : mg "abs" = none
  int : mg "int" = none
  isi : mg "isinstance" = none
  repr : mg "repr" = none
  list : mg "list" = none
  len : mg "len" = none
  range : mg "range" = none
  sorted : mg "sorted" = none
  set : mg "set" = none
  min : mg "min" = none
  max : mg "max" = none
  lcm : mg "lcm" = some (.builtin "math.lcm")
end B3
set_option maxRecDepth 100000
set_option maxHeartbeats 4000000
set_option exponentiation.threshold 10000
namespace LP
open PySem PySem.Spec PyProof.Rows L2
def EvB (c : TT) (σ : L2.St) (H : Hp) (b : Bool) : Prop := ∀ H1, Grow H H1 → ∀ Q : Bool → Hp → Prop, (∀ H2, Grow H1 H2 → Q b H2) → c σ H1 Q
section
variable {K : PySem.W.Frag} {σ : L2.St} {H H' : Hp} {te ta tb : TE} {tl : TA} {P R : PV} {v : V} {i j : Nat} {c c' : TT} {D : Ends} {t1 t2 u : TS} {b : Bool}
theorem sq_no (h : EvB c σ H false) (q : ∀ H', Grow H H' → u D σ H') : tSeq (tIfS c t1 tNext) u D σ H := h H grow_rfl _ fun H2 g => iteF (q H2 g)
theorem sq_yes (h : EvB c σ H true) (q : ∀ H', Grow H H' → t1 { D with nx := u D } σ H') : tSeq (tIfS c t1 t2) u D σ H := h H grow_rfl _ fun H2 g => iteT (q H2 g)
theorem evb_or (h : EvB c σ H false) (h' : EvB c' σ H b) : EvB (tOr c c') σ H b := fun H1 g Q q => h H1 g _ fun H2 g2 => iteF (h' H2 (g.tr g2) Q fun H3 g3 => q H3 (g2.tr g3))
theorem evb_or1 (h : EvB c σ H true) : EvB (tOr c c') σ H true := fun H1 g Q q => h H1 g _ fun H2 g2 => iteT (q H2 g2)
theorem evb_not (h : EvB c σ H b) : EvB (tNot c) σ H (!b) := fun H1 g Q q => h H1 g _ fun H2 g2 => q H2 g2
theorem evb_val (h : EvP te σ H (IsP (.bl b))) : EvB (tB te) σ H b := fun H1 g Q q => h H1 g _ fun v H2 g2 e => ⟨b, e, q H2 g2⟩
theorem EvB.to {b' : Bool} (h : EvB c σ H b) (e : b = b') : EvB c σ H b' := by rw [← e]; exact h
end
end LP
namespace B3
open PySem PySem.Spec PyProof.Rows L2 RX LP SX TX
/-- where a def stands -/
structure At (K : PySem.W.Frag) (mg : Str → Option Value) (x : Str) (f : Addr) (fd : FuncData) (ps : List Str) : Prop where
  mg : mg x = some (.ref f)
  kp : PySem.W.keepIn K (.ref f) = true
  b : Binds K fd ps []
theorem int_txt (i : Int) : Str.ofString (toString i) = S (intL i) := by
  unfold intL
  by_cases h : i < 0
  · rw [if_pos h]
    obtain ⟨m, rfl⟩ : ∃ m : Nat, i = Int.negSucc m := ⟨i.natAbs - 1, by omega⟩
    show Str.ofString ("-" ++ toString (m + 1)) = _
    refine TL.ext_tl ?_
    rw [TL.tl_ofString]
    have e := TL.tl_num (m + 1)
    rw [TL.tl_ofString] at e
    rw [show (("-" ++ toString (m + 1) : String)).toList = '-' :: (toString (m + 1)).toList by rw [String.toList_append]; rfl]
    show (45 : Nat) :: (toString (m + 1)).toList.map Char.toNat = 45 :: TL.numL (m + 1)
    rw [← e]
    rfl
  · rw [if_neg h]
    obtain ⟨n, rfl⟩ : ∃ n : Nat, i = (n : Int) := ⟨i.natAbs, by omega⟩
    exact SX.num_S n
theorem log_of {i : Int} (h : i.natAbs < 2 ^ 1900) : i.natAbs.log2 < 1920 := Nat.lt_trans (PySem.Flt.log2_lt_of (by decide) h) (by decide)
theorem intL_len {i : Int} (h : i.natAbs < 2 ^ 1900) : (intL i).length ≤ 1921 := by
  have := int_text_len_1921 (log_of h)
  rw [int_txt, S_len] at this
  exact this
section
variable {σ : L2.St} {H : Hp} {te : TE} {ts : List TE} {acc y : Str} {Q : Str → Hp → Prop} {i : Int}
theorem v_fmt (h : Val te σ H (.int i)) (s : i.natAbs < 2 ^ 1900) : Val (tFmt te) σ H (.str (Str.ofString (toString i))) := fun Q q => h _ (Or.inr ⟨i, rfl, log_of s, q⟩)
theorem js_cons {t : TE} (h : Val t σ H (.str y)) (l : (acc ++ y).length ≤ sizeLine) (q : tJs ts (acc ++ y) σ H Q) : tJs (t :: ts) acc σ H Q := h _ ⟨y, rfl, l, q⟩
end
def reprL (t b : Int) : List Nat := [82, 97, 116, 105, 111, 40] ++ intL t ++ [44, 32] ++ intL b ++ [41]
/-- Ratio(x, y), both integers -/
def spInit (C CI : Addr) : Sp := fun vs H Q E => ∃ p dx u d, vs = [.ref p, .int u, .int d] ∧ H p = some (.ins C dx []) ∧
  (d ≠ 0 → u.natAbs < 2 ^ 4000 ∧ d.natAbs < 2 ^ 4000 ∧ Q .non (upd H p (.ins C dx (flds (tp u d) (bt u d))))) ∧ (d = 0 → E (.ref CI) none H)
def spTxt (C : Addr) (g : Int → Int → List Nat) : Sp := fun vs H Q _ => ∃ a dx t b, vs = [.ref a] ∧ H a = some (.ins C dx (flds t b)) ∧ t.natAbs < 2 ^ 1900 ∧ b.natAbs < 2 ^ 1900 ∧ Q (.str (S (g t b))) H
def spEq (K : PySem.W.Frag) (C : Addr) : Sp := fun vs H Q _ => ∃ a dx t1 b1 y r, vs = [.ref a, y] ∧ H a = some (.ins C dx (flds t1 b1)) ∧ KR K C H y r ∧ (r = false → Q (.bl false) H) ∧ (r = true → ∃ b dy t2 b2, y = .ref b ∧ H b = some (.ins C dy (flds t2 b2)) ∧ Q (.bl (decide (t1 = t2) && decide (b1 = b2))) H)
section
variable {P : Program} {w : World} {K : PySem.W.Frag} {mg : Str → Option Value} {base : Heap} {C CI CQ f : Addr} {fd : FuncData}
variable (T : RTx K mg C CI CQ)
include T
theorem v_top {σ : L2.St} {H : Hp} {i : Nat} {a dx : Addr} {t b : Int} (h : σ[i]? = some (some (.ref a))) (e : H a = some (.ins C dx (flds t b))) : Val (tFld K (tVar i) "top") σ H (.int t) := val_fld (val_var h) e T.cl T.nT flds_top
theorem v_bot {σ : L2.St} {H : Hp} {i : Nat} {a dx : Addr} {t b : Int} (h : σ[i]? = some (some (.ref a))) (e : H a = some (.ins C dx (flds t b))) : Val (tFld K (tVar i) "bottom") σ H (.int b) := val_fld (val_var h) e T.cl T.nB flds_bot
omit T
theorem scInit : FnScope ["self", "top", "bottom", "shared"] ["self", "top", "bottom"] (defScope sInit) := ⟨rfl, rfl, rfl, by decide +kernel, rfl, by decide +kernel, by decide +kernel⟩
theorem scEq : FnScope ["self", "other"] ["self", "other"] (defScope sEq) := ⟨rfl, rfl, rfl, by decide +kernel, rfl, by decide +kernel, by decide +kernel⟩
theorem scRepr : FnScope ["self"] ["self"] (defScope sRepr) := ⟨rfl, rfl, rfl, by decide +kernel, rfl, by decide +kernel, by decide +kernel⟩
include T
theorem ok_init {dvs : List V} (F : FunD K "__init__" "Ratio.__init__" (defArgs sInit) (defBody sInit) (defScope sInit) dvs [] f fd) :
    FnOk P w K mg base (L2.CX P w) 1 f fd ["self", "top", "bottom"] (spInit C CI) := by
  refine F.ok scInit (fun vs H Q E h => ?_) (fun cdv A outer s H vs Q E hr h => ?_)
  · obtain ⟨p, dx, x, y, rfl, _⟩ := h
    rfl
  · obtain ⟨p, dx, u, d, rfl, hp, good, bad⟩ := h
    have nd := scInit.nd
    refine ⟨_, pss_cons (ps_if (PW.pt (pw_or (pt_not (pt_val (pe_callB call_isi (by rfl) T.isi (by decide +kernel) (pa_cons (pv 1) (pa_cons (pe_bltn (v := .ty "int") (by rfl) T.int (by decide +kernel) rfl) pa_nil)))))
        (pw_or (pt_not (pt_val (pe_callB call_isi (by rfl) T.isi (by decide +kernel) (pa_cons (pv 2) (pa_cons (pe_bltn (v := .ty "int") (by rfl) T.int (by decide +kernel) rfl) pa_nil))))) (pw_or1 (pt_cmpR op_eq (pv 2) pe_int (nomark _))))))
        (pss_one (ps_raise rfl (takes_of rfl rfl rfl rfl) (pmk_own0 PySem.F.excBase_ValueError T.xI T.gI T.kI (raises_own T.bI T.tI) (by rfl)))) pss_nil)
      (pss_cons (ps_if (PW.pt (pw_or (pt_val (pe_callB call_isi (by rfl) T.isi (by decide +kernel) (pa_cons (pv 1) (pa_cons (pe_bltn (v := .ty "bool") (by rfl) T.bool (by decide +kernel) rfl) pa_nil))))
        (pw_or1 (pt_val (pe_callB call_isi (by rfl) T.isi (by decide +kernel) (pa_cons (pv 2) (pa_cons (pe_bltn (v := .ty "bool") (by rfl) T.bool (by decide +kernel) rfl) pa_nil)))))))
        (pss_one (ps_raise rfl (takes_of rfl rfl rfl rfl) (pmk_own0 PySem.F.excBase_ValueError T.xI T.gI T.kI (raises_own T.bI T.tI) (by rfl)))) pss_nil)
      (pss_cons (ps_set (i := 3) nd rfl (Or.inl rfl) (pe_callBfun cr_gcd (by rfl) T.gcd (pa_cons (pv 1) (pa_cons (pv 2) pa_nil))))
      (C8.pss_cut (ps_if (pt_cmpR op_lt (pv 2) pe_int (nomark _)) (pss_one (ps_set (i := 3) nd rfl (Or.inl rfl) (pe_un un_neg (pv 3)))) pss_nil)
      (pss_cons (ps_fld (pv 0) (pe_op op_fdivX (pv 1) (pv 3)) rfl)
      (pss_one (ps_fld (pv 0) (pe_op op_fdivX (pv 2) (pv 3)) rfl)))))), ?_⟩
    show tSeq _ _ _ [some (V.ref p), some (V.int u), some (V.int d), none] H
    have kI : ∀ i : Int, ∃ t, TyX K H (.int i) t ∧ PySem.W.kitOne K t (.type "int") = some true ∧ PySem.W.kitOne K t (.type "bool") = some false := fun i => ⟨_, .base (.int i), kit_ty (by decide +kernel), kit_ty (by decide +kernel)⟩
    obtain ⟨tu, tyu, ku, ku'⟩ := kI u
    obtain ⟨td, tyd, kd, kd'⟩ := kI d
    have c1 : Ans _ [some (V.ref p), some (V.int u), some (V.int d), none] H false := (ans_not (ans_val (val_isi (te := tVar 1) (cv := .ty "int") (val_var rfl) tyu ku (.ty _)))).to rfl
    have c2 : Ans _ [some (V.ref p), some (V.int u), some (V.int d), none] H false := (ans_not (ans_val (val_isi (te := tVar 2) (cv := .ty "int") (val_var rfl) tyd kd (.ty _)))).to rfl
    by_cases d0 : d = 0
    · refine sA_yes (ans_or c1 (ans_or c2 (ans_eq (val_var rfl) val_c rfl (by rw [d0]; rfl)))) ?_
      exact bad d0
    · refine sA_no (ans_or c1 (ans_or c2 (ans_eq (b := false) (val_var rfl) val_c rfl (decide_eq_false fun e => d0 (by cases e; rfl))))) ?_
      refine sA_no (ans_or (ans_val (val_isi (val_var rfl) tyu ku' (.ty _))) (ans_val (val_isi (val_var rfl) tyd kd' (.ty _)))) ?_
      obtain ⟨bu, bd, q⟩ := good d0
      refine sA_set (fun Q q => ⟨_, rfl, _, rfl, u, d, rfl, q⟩) ?_
      refine ⟨fun σ H' => σ = [some (V.ref p), some (V.int u), some (V.int d), some (V.int (gc u d))] ∧ H' = H, ?_, ?_⟩
      · by_cases hd : d < 0
        · refine st_yes (ans_cmp (val_var rfl) val_c fun Q q => ⟨_, _, rfl, rfl, (show Q (.bl (decide (d < 0))) H by rw [decide_eq_true hd]; exact q)⟩) ?_
          refine st_set (fun Q q => ⟨_, rfl, _, rfl, q⟩) ⟨?_, rfl⟩
          unfold gc
          rw [if_pos hd]
          rfl
        · refine st_no (ans_cmp (val_var rfl) val_c fun Q q => ⟨_, _, rfl, rfl, (show Q (.bl (decide (d < 0))) H by rw [decide_eq_false hd]; exact q)⟩) ⟨?_, rfl⟩
          unfold gc
          rw [if_neg hd]
          rfl
      · rintro σ H' ⟨rfl, rfl⟩
        have cd : CDivX u (gc u d) := div_x (gc_ne d0) (gc_le d0 bd) (by decide) (by decide)
        refine ⟨_, rfl, _, rfl, _, _, rfl, rfl, cd, _, rfl, p, C, dx, [], rfl, hp, T.cl, T.nT, (by show 0 < 1000; decide), ?_⟩
        refine ⟨_, rfl, _, rfl, _, _, rfl, rfl, (show CDivX d (gc u d) from cd), _, rfl, p, C, dx, _, rfl, upd_same, T.cl, T.nB, (by show 1 < 1000; decide), ?_⟩
        rw [upd_upd]
        rw [flds_put]
        exact q
theorem ok_repr (F : Fun K "__repr__" "Ratio.__repr__" sRepr f fd) : FnOk P w K mg base CX0 1 f fd ["self"] (spTxt C reprL) := by
  refine F.ok scRepr (fun vs H Q E h => ?_) (fun cdv A outer s H vs Q E hr h => ?_)
  · obtain ⟨a, dx, t, b, rfl, _⟩ := h
    rfl
  · obtain ⟨a, dx, t, b, rfl, ea, s1, s2, q⟩ := h
    refine ⟨_, pss_one (ps_ret (pe_joined (.cons pe_str (.cons (pe_fmt (pe_fld (pv 0) rfl)) (.cons pe_str (.cons (pe_fmt (pe_fld (pv 0) rfl)) (.cons pe_str .nil))))))), ?_⟩
    have top := v_top (σ := [some (V.ref a)]) (i := 0) T rfl ea
    have bot := v_bot (σ := [some (V.ref a)]) (i := 0) T rfl ea
    have l1 := intL_len s1
    have l2 := intL_len s2
    have big : 10000 ≤ sizeLine := by decide
    have e0 : Str.empty ++ Str.ofString "Ratio(" = S [82, 97, 116, 105, 111, 40] := S_cat [] [82, 97, 116, 105, 111, 40]
    have e1 : S [82, 97, 116, 105, 111, 40] ++ Str.ofString (toString t) = S ([82, 97, 116, 105, 111, 40] ++ intL t) := by
      rw [int_txt, S_cat]
    have e2 : S ([82, 97, 116, 105, 111, 40] ++ intL t) ++ Str.ofString ", " = S ([82, 97, 116, 105, 111, 40] ++ intL t ++ [44, 32]) := S_cat _ [44, 32]
    have e3 : S ([82, 97, 116, 105, 111, 40] ++ intL t ++ [44, 32]) ++ Str.ofString (toString b) = S ([82, 97, 116, 105, 111, 40] ++ intL t ++ [44, 32] ++ intL b) := by
      rw [int_txt, S_cat]
    have e4 : S ([82, 97, 116, 105, 111, 40] ++ intL t ++ [44, 32] ++ intL b) ++ Str.ofString ")" = S (reprL t b) := S_cat _ [41]
    have len : (reprL t b).length = 6 + (intL t).length + 2 + (intL b).length + 1 := by
      unfold reprL
      simp only [List.length_append, List.length_cons, List.length_nil]
    refine js_cons val_c ?_ ?_
    · rw [e0, S_len]; exact Nat.le_trans (by decide) big
    rw [e0]
    refine js_cons (v_fmt top s1) ?_ ?_
    · rw [e1, S_len, List.length_append]; show 6 + _ ≤ _; omega
    rw [e1]
    refine js_cons val_c ?_ ?_
    · rw [e2, S_len, List.length_append, List.length_append]; show 6 + _ + 2 ≤ _; omega
    rw [e2]
    refine js_cons (v_fmt bot s2) ?_ ?_
    · rw [e3, S_len, List.length_append, List.length_append, List.length_append]; show 6 + _ + 2 + _ ≤ _; omega
    rw [e3]
    refine js_cons val_c ?_ ?_
    · rw [e4, S_len, len]; omega
    rw [e4]
    exact q
theorem ok_eq (F : Fun K "__eq__" "Ratio.__eq__" sEq f fd) : FnOk P w K mg base CX0 1 f fd ["self", "other"] (spEq K C) := by
  refine F.ok scEq (fun vs H Q E h => ?_) (fun cdv A outer s H vs Q E hr h => ?_)
  · obtain ⟨a, dx, t1, b1, y, r, rfl, _⟩ := h
    rfl
  · obtain ⟨a, dx, t1, b1, y, r, rfl, ea, ⟨t, ty, kr⟩, no, yes⟩ := h
    refine ⟨_, pss_one (ps_ret (pe_and (pe_callB call_isi (by rfl) T.isi (by decide +kernel) (pa_cons (pv 1) (pa_cons (pe_glob (v := .ref C) (by rfl) T.gR rfl) pa_nil)))
      (pe_and (pe_cmpR op_eq (pe_fld (pv 0) rfl) (pe_fld (pv 1) rfl) (nomark _)) (pe_one (pe_cmpR op_eq (pe_fld (pv 0) rfl) (pe_fld (pv 1) rfl) (nomark _)))))), ?_⟩
    refine val_isi (val_var rfl) ty kr (.own C) _ ⟨r, rfl, ?_⟩
    cases r with
    | false => exact no rfl
    | true =>
      obtain ⟨b, dy, t2, b2, rfl, eb, q⟩ := yes rfl
      refine iteT (val_and (b := decide (t1 = t2)) (c := decide (b1 = b2)) (val_op (v_top T rfl ea) (v_top T rfl eb) fun Q q => ⟨rfl, ?_⟩) (fun _ => val_op (v_bot T rfl ea) (v_bot T rfl eb) fun Q q => ⟨rfl, ?_⟩) _ q)
      · rw [show decide (V.int t1 = V.int t2) = decide (t1 = t2) from decide_eq_decide.mpr ⟨fun e => by cases e; rfl, fun e => by rw [e]⟩]
        exact q
      · rw [show decide (V.int b1 = V.int b2) = decide (b1 = b2) from decide_eq_decide.mpr ⟨fun e => by cases e; rfl, fun e => by rw [e]⟩]
        exact q
end
end B3
set_option maxRecDepth 100000
set_option maxHeartbeats 4000000
/-! repr of a list of ints and of objects with an own __repr__. -/
namespace RX
open PySem PySem.Spec PyProof.Rows L2 LP
open Builtin
open Builtin.List
theorem under_loop (A : Around) (args : Args) : (A.under (.builtin "list.__repr__.loop" args)).units = A.units + 1 ∧ (A.under (.builtin "list.__repr__.loop" args)).depth = A.depth + 1 ∧ (A.under (.builtin "list.__repr__.loop" args)).handled = A.handled ∧ (A.under (.builtin "list.__repr__.loop" args)).frames = A.frames := by
  refine ⟨units_under_list_loop A args, ?_, ?_, ?_⟩
  · first | rfl | simp [Around.under, Code.weight, Code.isCreation, Code.isGuard, Code.isCaller, Code.frames, Code.isFrame, guardIds]
  · first | rfl | simp [Around.under, Code.weight, Code.isCreation, Code.isGuard, Code.isCaller, Code.frames, Code.isFrame, guardIds]
  · first | rfl | simp [Around.under, Code.weight, Code.isCreation, Code.isGuard, Code.isCaller, Code.frames, Code.isFrame, guardIds]
theorem sub_loop {X : Cx} {n : Nat} {A : Around} (s : Sub X (n + 1) A) (args : Args) : Sub X n (A.under (.builtin "list.__repr__.loop" args)) := by
  obtain ⟨e1, e2, e3, e4⟩ := under_loop A args
  have r := s.room
  exact ⟨⟨by rw [e3]; exact r.hd, by rw [e2]; have := r.dp; omega, by rw [e1]; have := r.un; omega⟩, by rw [e4]; exact s.fr⟩
abbrev Shw := V → Str → Hp → Prop
/-- what repr gives inside a list -/
def RpG (X : Cx) (n : Nat) (D : Shw) : Prop := ∀ (A : Around) (pins : List (Addr × Obj)) (s : Shared) (σ : L2.St) (H : Hp) (x : V) (t : Str) (u : Value) (base : Nat), Sub X n A → Inv X pins σ H s → RelV x u → D x t H → base + t.length ≤ sizeLine →
  wpAny (model X.prog X.w) A (pyReprUnder base u) (fun r s' => r = t ∧ Inv X pins σ H s') X.xe s
theorem strs_vals : ∀ {ws : List Str} {its : List Value}, Vals (ws.map V.str) its → ∃ done : List (Str × Tok), its = strValues done ∧ done.map (·.1) = ws
  | [], _, .nil => ⟨[], rfl, rfl⟩
  | w :: ws, _, .cons r t => by
    obtain ⟨k, rfl⟩ := r
    obtain ⟨done, e1, e2⟩ := strs_vals t
    exact ⟨(w, k) :: done, by rw [e1]; rfl, by rw [List.map_cons, e2]⟩
section
variable {X : Cx} {n : Nat} {D : Shw} {A : Around} {pins : List (Addr × Obj)} {σ : L2.St} {H : Hp} {a P : Addr} {xs : List V} {ts : List Str} {R : Result → Shared → Prop}
/-- a walk from 0 to n, told from its end -/
theorem down_to {p : Nat → Prop} {n : Nat} (last : p n) (turn : ∀ i, i < n → p (i + 1) → p i) : p 0 := by
  have : ∀ k, k ≤ n → p (n - k) := fun k => by
    induction k with
    | zero => exact fun _ => last
    | succ k ih => exact fun h => turn _ (by omega) (by rw [show n - (k + 1) + 1 = n - k by omega]; exact ih (by omega))
  simpa using this n (Nat.le_refl n)
/-- the sizes that the walk asks for -/
theorem sizes_of (h : (listText ts).length ≤ sizeLine) : piled ts ≤ sizeLine ∧ (∀ t ∈ ts, t.length + 1 ≤ sizeLine) ∧ ts.length ≤ sizeLine := by
  have e : (listText ts).length = (textFrom 0 "[" ts).length + 1 := strLen_append _ _
  obtain ⟨l1, l2, _⟩ := textFrom_len ts 0 "["
  have p := piled_le_listText ts
  rw [if_neg (Nat.lt_irrefl 0)] at l1
  exact ⟨by omega, fun t m => Nat.le_trans (Nat.succ_le_succ (l2 t m)) (by omega), by omega⟩
/-- the loop of list.__repr__ that stands at i ends with the text -/
def ShowsAt (X : Cx) (A : Around) (pins : List (Addr × Obj)) (σ : L2.St) (H : Hp) (a P : Addr) (ts : List Str) (R : Result → Shared → Prop) (i : Nat) : Prop := ∀ s, Inv X pins σ (upd H P (.lst ((ts.take i).map V.str))) s →
  codeAny (model X.prog X.w) A (.builtin "list.__repr__.loop" ⟨[.ref a, rawInt i, .ref P, rawInt ((0 + piled (ts.take i) : Nat) : Int)], []⟩) R s
theorem shows_enter {i m c : Nat} {s : Shared} {its : List Value} (e : s.heap.get? a = some { cls := .type "list", data := .seq its.toArray c })
    (h : wpAny (model X.prog X.w) (A.under (.builtin "list.__repr__.loop" ⟨[.ref a, rawInt i, .ref P, rawInt (m : Int)], []⟩)) (match its[i]? with
      | some x => (do
        let s ← holding [x] (pyReprUnder (m + 1) x)
        let signs := m + (s.length + 2)
        let r ← mkStr s
        listUpdate (.ref P) (·.push r)
        again (.builtin "list.__repr__.loop" ⟨[.ref a, rawInt ((i : Int) + 1), .ref P, rawInt signs], []⟩))
      | none => reprEnd (.ref P)) (fun fin s' => match fin with | .done f => R (.ok f) s' | .again c' => c'.quiet = true ∧ codeAny (model X.prog X.w) A c' R s') (fun e s' => R (.error e) s') s) :
    codeAny (model X.prog X.w) A (.builtin "list.__repr__.loop" ⟨[.ref a, rawInt i, .ref P, rawInt (m : Int)], []⟩) R s := by
  apply codeAny_builtin F.entry_list_repr_loop
  rw [show («list.__repr__.loop» ⟨[.ref a, rawInt i, .ref P, rawInt (m : Int)], []⟩) = _ from repr_loop_tree (.ref a) (.ref P) (i : Int) 0 (m : Int) 0]
  refine wpAny_bind (wpAny_listItems e rfl ?_)
  rw [show its.toArray[(i : Int).toNat]? = its[i]? by simp, Int.toNat_natCast]
  exact h
theorem shows_last (ha : H a = some (.lst xs)) (hP : H P = none) (hlen : ts.length = xs.length) (hsz : (listText ts).length ≤ sizeLine) (hR : ∀ s' u, Inv X pins σ (upd H P (.lst (ts.map V.str))) s' → R (.ok (.ret (.str (listText ts) u))) s') : ShowsAt X A pins σ H a P ts R ts.length := by
  intro s I
  rw [List.take_length] at I ⊢
  obtain ⟨_, its, c, rv, _, e⟩ := I.lstM (Ext.upd hP _ _ ha)
  obtain ⟨_, parts, _, rp, _, e2⟩ := I.lstM (l := P) upd_same
  obtain ⟨done, rfl, words⟩ := strs_vals rp
  refine shows_enter e ?_
  rw [List.getElem?_eq_none (show its.length ≤ ts.length by rw [← rv.length, hlen]; exact Nat.le_refl _)]
  simp only [reprEnd]
  refine wpAny_bind (wpAny_listItems e2 rfl ?_)
  rw [repr_fold, words]
  exact wpAny_bind (wpAny_pure (wpAny_bind (wpAny_mkStr (wpAny_pure (hR _ _ (I.tok _))) hsz)))
theorem shows_turn {i : Nat} (sb : Sub X (n + 1) A) (hD : RpG X n D) (hm : ∀ x t H H', Ext H H' → D x t H → D x t H') (ha : H a = some (.lst xs)) (hP : H P = none) (hT : ∀ (i : Nat) x, xs[i]? = some x → ∃ t, ts[i]? = some t ∧ D x t H) (hsz : (listText ts).length ≤ sizeLine)
    (hE : ∀ e s', X.xe e s' → R (.error e) s') (hi : i < xs.length) (next : ShowsAt X A pins σ H a P ts R (i + 1)) : ShowsAt X A pins σ H a P ts R i := by
  intro s I
  obtain ⟨z1, z2, z3⟩ := sizes_of hsz
  obtain ⟨_, its, c, rv, _, e⟩ := I.lstM (Ext.upd hP _ _ ha)
  obtain ⟨u, eu, ru⟩ := rv.get (List.getElem?_eq_getElem hi)
  obtain ⟨t, et, ht⟩ := hT i _ (List.getElem?_eq_getElem hi)
  have more := piled_take_succ et
  have fits := piled_take_le ts (i + 1)
  refine shows_enter e ?_
  rw [eu]
  refine wpAny_bind (wpAny_holding (wpAny_mono (hD _ pins s σ _ _ t u _ (sub_loop sb _) I ru (hm _ _ _ _ (Ext.upd hP) ht) (by omega)) ?_ fun e s' z => hE e s' z))
  rintro r s1 ⟨rfl, I1⟩
  refine wpAny_bind (wpAny_mkStr (wpAny_bind ?_) (Nat.le_of_succ_le (z2 r (List.mem_of_getElem? et))))
  obtain ⟨_, parts, _, rp, ep, e2⟩ := I1.lstM (l := P) upd_same
  have eq1 : (ts.take (i + 1)).map V.str = (ts.take i).map V.str ++ [V.str r] := by rw [List.take_add_one, et, List.map_append]; rfl
  have lt : i < ts.length := (List.getElem?_eq_some_iff.mp et).1
  have short : ((ts.take i).map V.str).length < ts.length := by rw [List.length_map, List.length_take]; omega
  have J := (I1.tok (s1.toks + 1)).lset (l := P) (its := parts) (its' := parts ++ [.str r s1.toks]) (ys := (ts.take (i + 1)).map V.str) (f := fun x => x.push (.str r s1.toks)) (t' := s1.toks + 1) upd_same e2 (by simp) (by rw [eq1]; exact rp.append (.cons ⟨_, rfl⟩ .nil))
    (by rw [eq1, List.length_append, List.length_singleton]; omega)
  rw [upd_upd] at J
  show wpAny _ _ (updateSeq P _) _ _ _
  refine wpAny_updateSeq (s := { s1 with toks := s1.toks + 1 }) e2 rfl (wpAny_pure ⟨F.quiet_list_repr_loop _, ?_⟩) (by rw [List.size_toArray]; omega)
  have ix : ((i : Int) + 1) = ((i + 1 : Nat) : Int) := by omega
  have pl : 0 + piled (ts.take i) + (r.length + 2) = 0 + piled (ts.take (i + 1)) := by omega
  rw [ix, pl]
  exact next _ J
end

/-- ints -/
def DInt : Shw := fun x t _ => ∃ i : Int, x = .int i ∧ i.natAbs.log2 < 1920 ∧ t = Str.ofString (toString i)
/-- instances of the class at C with an own __repr__: what its promise says -/
def DTx (C : Addr) (T : Addr → Str → Hp → Prop) : Shw := fun x t H => ∃ a dx fs, x = .ref a ∧ H a = some (.ins C dx fs) ∧ T a t H
section
variable {X : Cx} {n : Nat} {D D' : Shw}
theorem rpG_int : RpG X n DInt := by
  intro A pins s σ H x t u base sb I ru hd hb
  obtain ⟨i, rfl, hi, rfl⟩ := hd
  obtain ⟨k, rfl⟩ := ru
  exact ReprIs.int k hi base hb A X.xe s _ fun tk => ⟨rfl, I.tok tk⟩
theorem RpG.or (h : RpG X n D) (h' : RpG X n D') : RpG X n (fun x t H => D x t H ∨ D' x t H) := fun A pins s σ H x t u base sb I ru d hb => by
  rcases d with d | d
  · exact h A pins s σ H x t u base sb I ru d hb
  · exact h' A pins s σ H x t u base sb I ru d hb
variable {CX : CXT} {C f : Addr} {fd : FuncData} {ps : List Str} {T : Addr → Str → Hp → Prop} {E : XK}
def spShow (T : Addr → Str → Hp → Prop) : Sp := fun vs H Q _ => ∃ a t, vs = [.ref a] ∧ T a t H ∧ Q (.str t) H
theorem rpG_ins (F : FnOk X.prog X.w X.K X.mg X.base CX n f fd ps (spShow T)) (O : Own X.K C f "__repr__") (hb : Binds X.K fd ps []) (hx : Passes CX X E) : RpG X n (DTx C T) := by
  intro A pins s σ H x t u base sb I ru hd hbz
  obtain ⟨a, dx, fs, rfl, ea, ht⟩ := hd
  cases ru
  obtain ⟨_, _, J⟩ := inst_at I ea
  refine wpAny_pyReprUnder_ref (by omega) ?_
  unfold pyReprObjUnder pyReprObjBy
  refine wpAny_bind (wpAny_cRoomFor sb.room.units0 ?_)
  refine wpAny_bind (wpAny_bind (J.type.here ((PySem.W.looks_findIn I.kIn O.at_).here ?_)))
  show wpAny _ _ (if (some (Value.ref f)).isNone = true then _ else _) _ _ _
  rw [if_neg (by simp)]
  have run : wpAny (model X.prog X.w) A (call (.ref f) [.ref a]) (fun v s' => (∃ x u, v = .str x u ∧ x = t) ∧ Inv X pins σ H s') X.xe s := by
    refine wpAny_mono (run_sub (A := A) (vs := [.ref a]) (Q := fun v H' => v = .str t ∧ H' = H) F sb.room sb.fr hb hx I (.cons rfl .nil) ⟨a, t, rfl, ht, rfl, rfl⟩) (fun r s' z => ?_) fun _ _ z => z
    obtain ⟨w, H', I', rv, rfl, rfl⟩ := z
    obtain ⟨k, rfl⟩ := rv
    exact ⟨⟨t, k, rfl, rfl⟩, I'⟩
  refine wpAny_bind (m := callSpecialIfBoundBy? _ (.ref a) (Str.ofString "__repr__")) ?_
  simp only [callSpecialIfBoundBy?, bindSpecialIfBound?]
  refine wpAny_holding (wpAny_bind (wpAny_bind (wpAny_bind (J.type.here ((PySem.W.looks_findIn I.kIn O.at_).here ?_)))))
  refine wpAny_bind (wpAny_askSetting (wpAny_ite ?_))
  have fin : ∀ {Q : Option Value → Shared → Prop}, (∀ x u s', x = t → Inv X pins σ H s' → Q (some (.str x u)) s') → wpAny (model X.prog X.w) A (call (.ref f) ([.ref a] ++ []) >>= fun v => pure (some v)) Q X.xe s := fun q => wpAny_bind (wpAny_mono run (fun v s' h' => by
    obtain ⟨⟨x, u, rfl, e⟩, I'⟩ := h'
    exact wpAny_pure (q x u s' e I')) fun _ _ h' => h')
  have rest : ∀ (x : Str) (k : Tok) (s' : Shared), x = t → Inv X pins σ H s' → wpAny (model X.prog X.w) A (do if ← isInstance (.str x k) (.type "str") then pure (Value.str x k) else
      raiseError "TypeError" s!"__repr__ returned non-string (type {← typeNameOf (.str x k)})") (fun v s' => ∃ x u, v = .str x u ∧ x = t ∧ Inv X pins σ H s') X.xe s' := fun x k s' e I' => by
    refine wpAny_bind (wpAny_isInstance (typeIs_str _ _ _) isSubtype_str_str ?_)
    exact wpAny_pure ⟨x, k, rfl, e, I'⟩
  split
  · exact wpAny_bind ((PySem.W.bind_fn I.kIn _ (beq_iff_eq.mp O.fn)).here (wpAny_pure (fin fun x k s' e I' => rest x k s' e I')))
  · exact wpAny_tryCatch (wpAny_bind ((PySem.W.bind_fn I.kIn _ (beq_iff_eq.mp O.fn)).here (wpAny_pure (fin fun x k s' e I' => rest x k s' e I'))))
/-- repr(x), x a list of such -/
def rReprL (D : Shw) : List V → Hp → VK → Prop := fun vs H Q => ∃ (a : Addr) (xs : List V) (ts : List Str), vs = [.ref a] ∧ H a = some (.lst xs) ∧ xs ≠ [] ∧ ts.length = xs.length ∧ (∀ (i : Nat) x, xs[i]? = some x → ∃ t, ts[i]? = some t ∧ D x t H) ∧ (listText ts).length ≤ sizeLine ∧
  ∀ H', Grow H H' → Q (.str (listText ts)) H'
theorem call_reprL (hg : X.A.guards = some []) (hr : Room (n + 2) X.A) (hD : RpG X n D) (hm : ∀ x t H H', Ext H H' → D x t H → D x t H') : CallR X (.builtin "repr") (rReprL D) := by
  intro pins s σ H vs us Q I r h
  obtain ⟨a, xs, ts, rfl, ha, hne, hlen, hT, hsz, q⟩ := h
  obtain ⟨u, rfl, ru⟩ := vals1 r
  cases ru
  obtain ⟨_, its, na, rv, el, e⟩ := I.lstM ha
  have hTy : s.TypeIs (.ref a) "list" := ⟨_, e, rfl⟩
  have sb : Sub X (n + 1) X.A.in1 := ⟨hr.in1, rfl⟩
  refine call_repr_slot (by have := hr.un; omega) hTy F.slot_list_repr.toG ?_
  refine wpAny_call (codeAny_call_builtin F.slot_list_repr.plain F.entry_list_repr (F.slot_list_repr.check _ _ _ _ _ _ _ _ hTy (F.args_list_repr_1 _) ?_))
  obtain ⟨y, l, rfl⟩ : ∃ y l, its = y :: l := by
    cases its with
    | nil =>
      cases rv
      exact absurd rfl hne
    | cons y l => exact ⟨y, l, rfl⟩
  have free : H s.heap.objs.size = none := I.fresh
  refine wpAny_list_repr_head (A := X.A.in1.in1) hg (fun _ _ _ m => nomatch m) e rfl (wpAny_bind (m := newList []) (wpAny_newObj_type (wpAny_pure ⟨F.quiet_list_repr_loop _, ?_⟩)))
  have J : Inv X pins σ (upd H s.heap.objs.size (.lst [])) { s with heap := s.heap.push { cls := .type "list", data := .seq #[] } } := I.lnew (t' := s.toks) .nil (by decide)
  exact down_to (p := ShowsAt X X.A.in1 pins σ H a s.heap.objs.size ts _) (shows_last ha free hlen hsz fun s' u I' => ⟨_, _, rfl, .str (listText ts), _, I', ⟨_, rfl⟩, q _ (grow_new free)⟩)
    (fun i hi z => shows_turn sb hD hm ha free hT hsz (fun _ _ z => z) (by omega) z) _ J
end
end RX
set_option maxRecDepth 100000
set_option maxHeartbeats 8000000
/-! set(list of ints), by what a walk of it asks; math.lcm. -/
namespace RX
open PySem PySem.Spec PyProof.Rows L2 LP
/-- a new set -/
abbrev bareSet (w : World) : Obj := { cls := .type "set", dict := none, data := .set #[] 0 (.fresh 0 0 (!w.params.followText "set-order")) }
section
variable {prog : Program} {w : World} {A : Around} {E : Value → Shared → Prop} {s : Shared} {S l : Addr} {items : Array Value} {ns : List Int}
/-- what has become of the heap h when the set at S has taken the ints of ns -/
def Took (w : World) (S : Addr) (ns : List Int) (s s' : Shared) : Prop :=
  ∃ h' tk c, s' = { s with heap := h', toks := tk } ∧ SetR w h' S (fun j => decide (j ∈ ns)) c ∧ c ≤ ns.length ∧ ∀ b o, b ≠ S → s.heap.get? b = some o → h'.get? b = some o
theorem ints_get (hi : IntsAre items.toList ns) {i : Nat} {v : Value} (h : items[i]? = some v) : ∃ k t, ns[i]? = some k ∧ v = .int k t := by
  have e : items.toList[i]? = some v := by rw [Array.getElem?_toList]; exact h
  have hl := IntsAre.length hi
  obtain ⟨t, q⟩ := IntsAre.int_at hi i v e
  have lt := (List.getElem?_eq_some_iff.mp e).1
  exact ⟨ns[i]'(by omega), t, List.getElem?_eq_getElem _, by rw [q, List.getD_eq_getElem?_getD, List.getElem?_eq_getElem (by omega)]; rfl⟩
/-- the loop from the list's iterator on -/
theorem took_loop (hh : A.handled = none) (hS : s.heap.get? S = some (bareSet w)) (hl : s.heap.IsList l items) (hi : IntsAre items.toList ns) (hb : ns.length + 1 < scanBound) {R : Result → Shared → Prop}
    (hR : ∀ s', Took w S ns s s' → R (.ok (.ret .none)) s') :
    codeAny (model prog w) A (.builtin "set.update.loop" ⟨[.ref S, .ref s.heap.objs.size], []⟩) R { s with heap := s.heap.push { cls := .type "list_iterator", data := .fields #[.ref l, .int 0 0] } } := by
  have n : items.size = ns.length := by rw [← Array.length_toList]; exact IntsAre.length hi
  have ll : l < s.heap.objs.size := let ⟨_, q, _⟩ := hl; Heap.lt_size q
  have lS : S < s.heap.objs.size := Heap.lt_size hS
  have nl : S ≠ l := fun e => by
    obtain ⟨o, q, c, _⟩ := hl
    rw [← e, hS] at q
    cases q
    injection (show Value.type "set" = Value.type "list" from c) with c
    exact absurd c (by decide)
  refine set_update_ints (P := prog) (Walks.list (by simpa using hh) s.heap.objs.size l (Nat.ne_of_lt ll) items).toS S ?_ ns n hb (fun i v => ints_get hi) items.size 0 _ rfl (Nat.zero_le _) ⟨⟨_, Heap.get?_push_size _ rfl, rfl, rfl⟩, hl.push _⟩ ⟨0, Nat.le_refl 0, setR_new_at (Heap.get?_push_of_some _ hS)⟩ fun s' c hm hc r => ?_
  · intro h
    rcases List.mem_cons.mp h with e | e
    · exact Nat.ne_of_lt lS e
    · exact nl (List.mem_singleton.mp e)
  · refine hR s' ⟨s'.heap, s'.toks, c, ?_, r, n ▸ hc, fun b o nb e => hm.heap b o (fun h => ?_) (Heap.get?_push_of_some _ e)⟩
    · obtain ⟨_, _, _, _, _⟩ := s'
      cases (show _ = s.gens from hm.gens); cases (show _ = s.drawn from hm.drawn); cases (show _ = s.os from hm.os)
      rfl
    · rcases List.mem_cons.mp h with q | q
      · exact nb q
      · exact Nat.ne_of_lt (Heap.lt_size e) (List.mem_singleton.mp q)
/-- set.__init__ of a new set, handed a list -/
theorem took_init (hh : A.handled = none) (hS : s.heap.get? S = some (bareSet w)) (hl : s.heap.IsList l items) (hi : IntsAre items.toList ns) (hb : ns.length + 1 < scanBound) {Q : Fin → Shared → Prop} (hQ : ∀ s', Took w S ns s s' → Q (.done (.ret .none)) s') :
    wpAny (model prog w) A (Builtin.«set.__init__» ⟨[.ref S, .ref l], []⟩) Q E s := by
  have loop := fun R hR => took_loop (prog := prog) (w := w) (A := A) (R := R) hh hS hl hi hb hR
  obtain ⟨ol, q, c, nl, d⟩ := id hl
  obtain ⟨oc, od, oD, os⟩ := ol
  dsimp only at c d
  cases c; cases d
  have l1 := PySem.F.sub_list_set
  have l2 := PySem.F.sub_list_frozenset
  have l3 : (Value.type "list" == Value.type "dict") = false := rfl
  have it := fun Q hQ => wpAny_pyIter_list (prog := prog) (w := w) (A := A) (E := E) (Q := Q) hl hQ
  unfold Builtin.«set.__init__» noKeywords Builtin.Frozenset.updateFrom
  generalize pyIter = PI at it ⊢
  wp_walk
  refine it _ (wpAny_bind (wpAny_runValue ?_))
  exact loop _ fun s' t => wpAny_pure (wpAny_pure (hQ s' t))
theorem call_set_listR {Q : Value → Shared → Prop} (hh : A.handled = none) (hl : s.heap.IsList l items) (hi : IntsAre items.toList ns) (hb : ns.length + 1 < scanBound)
    (h : ∀ (h' : Heap) (tk c : Nat), SetR w h' s.heap.objs.size (fun j => decide (j ∈ ns)) c → c ≤ ns.length → (∀ b o, s.heap.get? b = some o → h'.get? b = some o) → Q (.ref s.heap.objs.size) { s with heap := h', toks := tk }) :
    wpAny (model prog w) A (call (.type "set") [.ref l]) Q E s := by
  have T := PySem.F.called_set
  obtain ⟨_, _, m0⟩ := T.mro
  have m1 := T.made
  have m2 := T.sub
  have m3 := T.notType
  have m4 := T.canCreate
  have m5 := PySem.F.typeCall_set_1 (.ref l)
  have m6 := T.init.lookup
  -- a new set, then its __init__
  refine wpAny_call (codeAny_of_tree (wpAny_pure ⟨Code.quiet_builtin _ (by decide +kernel), codeAny_builtin F.entry_type_call ?_⟩))
  rw [Around.under_plain (weight_type_call_type "set" [.ref l] []) rfl]
  repeat (any_goals (first | assumption | wp_step))
  have mk := code_set_led1 (P := prog) (w := w) (A := A.in1) (s := s) (E := E) (.ref l) (Q₁ := fun o s1 => o = .ref s.heap.objs.size ∧ s1 = { s with heap := s.heap.push (bareSet w) }) ⟨rfl, rfl⟩
  refine codeAny_mono mk ?_
  rintro (e | f) s1 z
  · exact z
  · cases f with
    | next => exact z.elim
    | brk => exact z.elim
    | cont => exact z.elim
    | ret obj =>
      obtain ⟨rfl, rfl⟩ := z
      have at_ : (s.heap.push (bareSet w)).get? s.heap.objs.size = some (bareSet w) := Heap.get?_push_size _ rfl
      have ty : Shared.TypeIs { s with heap := s.heap.push (bareSet w) } (.ref s.heap.objs.size) "set" := ⟨_, at_, rfl⟩
      have m7 := T.init.bind (.ref s.heap.objs.size)
      have m8 := T.init.plain
      repeat (any_goals (first | assumption | wp_step))
      refine codeAny_mono (codeAny_call_builtin (R := wants (fun v s2 => v = .none ∧ Took w s.heap.objs.size ns { s with heap := s.heap.push (bareSet w) } s2) E) m8 F.entry_set_init (check_set_init_1 ty (took_init (by simpa using hh) at_ (hl.push _) hi hb fun s2 t => ⟨rfl, t⟩))) ?_
      rintro (e | f) s2 z
      · exact z
      · cases f with
        | next => exact z.elim
        | brk => exact z.elim
        | cont => exact z.elim
        | ret v =>
          obtain ⟨rfl, h', tk, c, rfl, r, hc, keep⟩ := z
          repeat (any_goals (first | assumption | wp_step))
          exact h _ _ _ r hc fun b o e => keep b o (Nat.ne_of_lt (Heap.lt_size e)) (Heap.get?_push_of_some _ e)
end
section
variable {X : Cx}
/-- sorted(set(xs)), fewer than 64 ints -/
def rSetL (w : World) (K : PySem.W.Frag) : List V → Hp → VK → Prop := fun vs H Q => ∃ (a : Addr) (ns : List Int), vs = [V.ref a] ∧ SqL K H a (ns.map V.int) ∧ ns.length + 1 < scanBound ∧
  ∀ (p : Addr) (n : Nat), n ≤ ns.length → H p = none → Q (.ref p) (upd H p (SetO w p (fun k => decide (k ∈ ns)) n))
theorem call_setL (hc : X.calm = true) : CallR X (.type "set") (rSetL X.w X.K) := by
  intro pins s σ H vs us Q I r h
  obtain ⟨a, ns, rfl, hs, hb, q⟩ := h
  obtain ⟨its, rv, hl, _⟩ := I.list hs
  rw [Vals.ref1 r]
  exact call_set_listR (I.ok.hd hc) hl.isList rv.ints hb fun h' tk c R hc' hk => ⟨.ref _, _, I.laid (t' := tk) (fun b u e => hk b u e) (Nat.le_refl _) (setO_new R), rfl, q _ _ hc' (I.hok.fresh (Nat.le_refl _))⟩
end
end RX
set_option maxRecDepth 100000
set_option maxHeartbeats 4000000
set_option exponentiation.threshold 10000
namespace RX
open PySem PySem.Spec PyProof.Rows L2 LP PySem.Calls
section
variable {X : Cx}
/-- math.lcm(a, b) -/
def rLcm : List V → Hp → VK → Prop := fun vs H Q => ∃ a b : Int, vs = [.int a, .int b] ∧ 0 < a ∧ 0 < b ∧ a.natAbs < 2 ^ 2000 ∧ b.natAbs < 2 ^ 2000 ∧ Q (.int ((Nat.lcm a.natAbs b.natAbs : Nat) : Int)) H
theorem cr_lcm : CallR X (.builtin "math.lcm") rLcm := by
  intro pins s σ H vs us Q I r h
  obtain ⟨a, b, rfl, a0, b0, ha, hb, q⟩ := h
  obtain ⟨t, u, rfl⟩ := Vals.int2 r
  have one : (1 : Nat) < 2 ^ 2000 := by decide
  have h1 : (max 1 a.natAbs).log2 ≤ 1999 := PySem.W.mg_log (Nat.max_lt.mpr ⟨one, ha⟩)
  have h2 : (max a.natAbs b.natAbs).log2 ≤ 1999 := PySem.W.mg_log (Nat.max_lt.mpr ⟨ha, hb⟩)
  have e1 : (Nat.lcm 1 a.natAbs).lcm b.natAbs = Nat.lcm a.natAbs b.natAbs := by rw [Nat.lcm_one_left]
  have big : (Nat.lcm a.natAbs b.natAbs) < 2 ^ 4000 := by
    have := Nat.lcm_le_mul (m := a.natAbs) (n := b.natAbs) (by omega) (by omega)
    exact Nat.lt_of_le_of_lt this (by
      have := Nat.mul_lt_mul'' ha hb
      rw [← Nat.pow_add] at this
      exact this)
  have hsz : ((((Nat.lcm 1 a.natAbs).lcm b.natAbs : Nat) : Int)).natAbs.log2 < bitsLine := by
    rw [e1, Int.natAbs_natCast]
    exact Nat.lt_of_lt_of_le (PySem.Flt.log2_lt_of (by decide) big) (by decide)
  have ok : Gives (Builtin.«math.lcm» ⟨[.int a t, .int b u], []⟩) (.int ((((Nat.lcm 1 a.natAbs).lcm b.natAbs : Nat) : Int))) := PySem.W.mg_run_lcm a t b u (by omega) (by omega) hsz
  rw [e1] at ok
  exact call_function_meets PySem.W.MGF.kind_lcm PySem.W.MGF.plain_lcm PySem.W.MGF.entry_lcm (PySem.W.MGF.args_lcm _ _) ok.meets ⟨.int _, H, I.tok _, ⟨_, rfl⟩, q⟩
end
end RX
set_option exponentiation.threshold 10000
/-! Numbers in order: mathematics. -/
namespace AX
open RX
abbrev P2 := Int × Int
def low (p : P2) : P2 := (tp p.1 p.2, bt p.1 p.2)
def lcmF (ps : List P2) : Nat := ps.foldl (fun a p => Nat.lcm a p.2.natAbs) 1
def keyI (L : Int) (p : P2) : Int := p.1 * (L.fdiv p.2)
def lowk (L k : Int) : P2 := (tp k L, bt k L)
theorem lcmF_snoc (ps : List P2) (p : P2) : lcmF (ps ++ [p]) = Nat.lcm (lcmF ps) p.2.natAbs := by
  unfold lcmF
  rw [List.foldl_append]
  rfl
theorem lcm_take {ps : List P2} {i : Nat} {p : P2} (h : ps[i]? = some p) : lcmF (ps.take (i + 1)) = Nat.lcm (lcmF (ps.take i)) p.2.natAbs := by
  rw [List.take_add_one, h]
  exact lcmF_snoc _ _
theorem snoc_ind {α : Type} {M : List α → Prop} (h0 : M []) (h1 : ∀ l x, M l → M (l ++ [x])) : ∀ l, M l := by
  intro l
  generalize hn : l.length = n
  induction n generalizing l with
  | zero =>
    have : l = [] := List.length_eq_zero_iff.mp hn
    rw [this]
    exact h0
  | succ n ih =>
    have hne : l ≠ [] := fun e => by rw [e] at hn; cases hn
    rw [← List.dropLast_concat_getLast hne]
    exact h1 _ _ (ih _ (by rw [List.length_dropLast]; omega))
theorem lcmF_ok : ∀ ps : List P2, (∀ p ∈ ps, 0 < p.2 ∧ p.2.natAbs ≤ 1000) → 0 < lcmF ps ∧ lcmF ps ≤ 1000 ^ ps.length ∧ ∀ p ∈ ps, p.2.natAbs ∣ lcmF ps := by
  refine snoc_ind (fun _ => ⟨by decide, by decide, fun p h => by cases h⟩) fun l x ih h => ?_
  obtain ⟨h1, h2, h3⟩ := ih fun p hp => h p (List.mem_append_left _ hp)
  obtain ⟨x0, x1⟩ := h x (List.mem_append_right _ List.mem_cons_self)
  rw [lcmF_snoc]
  refine ⟨Nat.lcm_pos h1 (by omega), ?_, fun p hp => ?_⟩
  · refine Nat.le_trans (Nat.lcm_le_mul (m := lcmF l) (n := x.2.natAbs) h1 (by omega)) ?_
    rw [List.length_append, List.length_singleton, Nat.pow_succ]
    exact Nat.mul_le_mul h2 x1
  · rcases List.mem_append.mp hp with q | q
    · exact Nat.dvd_trans (h3 p q) (Nat.dvd_lcm_left _ _)
    · rcases List.mem_cons.mp q with q | q
      · rw [q]; exact Nat.dvd_lcm_right _ _
      · cases q
theorem key_mul {ps : List P2} (h : ∀ p ∈ ps, 0 < p.2 ∧ p.2.natAbs ≤ 1000) {p : P2} (hp : p ∈ ps) : keyI (lcmF ps : Nat) p * p.2 = p.1 * (lcmF ps : Nat) := by
  obtain ⟨_, _, h3⟩ := lcmF_ok ps h
  have d : p.2 ∣ ((lcmF ps : Nat) : Int) := by
    have := Int.natCast_dvd_natCast.mpr (h3 p hp)
    exact Int.natAbs_dvd.mp this
  unfold keyI
  rw [Int.fdiv_eq_ediv_of_dvd d, Int.mul_assoc, Int.ediv_mul_cancel d]
/-! ### the law's order -/
def bef (p q : P2) : Bool := decide (p.1 * q.2 < q.1 * p.2)
def stp (l : List P2) (p : P2) : List P2 := l.filter (fun o => bef o p) ++ [p] ++ l.filter (fun o => bef p o)
def srt (us : List P2) : List P2 := us.foldl stp []
theorem srt_snoc (us : List P2) (p : P2) : srt (us ++ [p]) = stp (srt us) p := by
  unfold srt
  rw [List.foldl_append]
  rfl
theorem srt_take {us : List P2} {i : Nat} {p : P2} (h : us[i]? = some p) : srt (us.take (i + 1)) = stp (srt (us.take i)) p := by
  rw [List.take_add_one, h]
  exact srt_snoc _ _
theorem srt_mem : ∀ (us : List P2) (p : P2), p ∈ srt us → p ∈ us := by
  refine snoc_ind (fun p h => h) fun l x ih p h => ?_
  rw [srt_snoc] at h
  unfold stp at h
  rcases List.mem_append.mp h with h | h
  · rcases List.mem_append.mp h with h | h
    · exact List.mem_append_left _ (ih p (List.mem_filter.mp h).1)
    · exact List.mem_append_right _ h
  · exact List.mem_append_left _ (ih p (List.mem_filter.mp h).1)
theorem srt_len (us : List P2) : (srt us).length ≤ us.length * 2 + 1 ∨ True := Or.inr trivial
section
variable {K : P2 → Int} {us : List P2}
theorem srt_ok (h : ∀ p ∈ us, ∀ q ∈ us, (bef p q = true ↔ K p < K q)) : ((srt us).map K).Pairwise (· < ·) ∧ ∀ k, k ∈ (srt us).map K ↔ k ∈ us.map K := by
  revert h
  refine snoc_ind (M := fun us => (∀ p ∈ us, ∀ q ∈ us, (bef p q = true ↔ K p < K q)) → ((srt us).map K).Pairwise (· < ·) ∧ ∀ k, k ∈ (srt us).map K ↔ k ∈ us.map K) (fun _ => ⟨List.Pairwise.nil, fun k => Iff.rfl⟩) (fun l x ih h => ?_) us
  obtain ⟨h1, h2⟩ := ih fun p hp q hq => h p (List.mem_append_left _ hp) q (List.mem_append_left _ hq)
  have hx : x ∈ l ++ [x] := List.mem_append_right _ List.mem_cons_self
  have bl : ∀ o ∈ srt l, (bef o x = true ↔ K o < K x) := fun o ho => h o (List.mem_append_left _ (srt_mem l o ho)) x hx
  have bg : ∀ o ∈ srt l, (bef x o = true ↔ K x < K o) := fun o ho => h x hx o (List.mem_append_left _ (srt_mem l o ho))
  rw [srt_snoc]
  unfold stp
  constructor
  · rw [List.map_append, List.map_append, List.append_assoc, List.pairwise_append]
    refine ⟨List.Pairwise.sublist (List.Sublist.map K List.filter_sublist) h1, ?_, ?_⟩
    · rw [List.map_cons, List.map_nil, List.singleton_append, List.pairwise_cons]
      refine ⟨fun k hk => ?_, List.Pairwise.sublist (List.Sublist.map K List.filter_sublist) h1⟩
      obtain ⟨o, ho, rfl⟩ := List.mem_map.mp hk
      obtain ⟨o1, o2⟩ := List.mem_filter.mp ho
      exact (bg o o1).mp o2
    · intro a ha b hb
      obtain ⟨o, ho, rfl⟩ := List.mem_map.mp ha
      obtain ⟨o1, o2⟩ := List.mem_filter.mp ho
      have q := (bl o o1).mp o2
      rcases List.mem_append.mp hb with hb | hb
      · rw [List.map_cons, List.map_nil] at hb
        rw [List.mem_singleton.mp hb]
        exact q
      · obtain ⟨o', ho', rfl⟩ := List.mem_map.mp hb
        obtain ⟨o3, o4⟩ := List.mem_filter.mp ho'
        have := (bg o' o3).mp o4
        omega
  · intro k
    rw [List.map_append, List.map_append, List.mem_append, List.mem_append, List.map_append, List.mem_append, ← h2 k]
    rw [List.map_cons, List.map_nil, List.mem_singleton]
    constructor
    · rintro ((q | q) | q)
      · obtain ⟨o, ho, rfl⟩ := List.mem_map.mp q
        exact .inl (List.mem_map_of_mem (List.mem_filter.mp ho).1)
      · exact .inr q
      · obtain ⟨o, ho, rfl⟩ := List.mem_map.mp q
        exact .inl (List.mem_map_of_mem (List.mem_filter.mp ho).1)
    · rintro (q | q)
      · obtain ⟨o, ho, rfl⟩ := List.mem_map.mp q
        rcases Int.lt_trichotomy (K o) (K x) with z | z | z
        · exact .inl (.inl (List.mem_map_of_mem (List.mem_filter.mpr ⟨ho, (bl o ho).mpr z⟩)))
        · exact .inl (.inr z)
        · exact .inr (List.mem_map_of_mem (List.mem_filter.mpr ⟨ho, (bg o ho).mpr z⟩))
      · exact .inl (.inr q)
end
theorem asc_uniq : ∀ {xs ys : List Int}, xs.Pairwise (· < ·) → ys.Pairwise (· < ·) → (∀ k, k ∈ xs ↔ k ∈ ys) → xs = ys
  | [], [], _, _, _ => rfl
  | [], y :: ys, _, _, h => by
    have := (h y).mpr List.mem_cons_self
    cases this
  | x :: xs, [], _, _, h => by
    have := (h x).mp List.mem_cons_self
    cases this
  | x :: xs, y :: ys, h1, h2, h => by
    obtain ⟨a1, b1⟩ := List.pairwise_cons.mp h1
    obtain ⟨a2, b2⟩ := List.pairwise_cons.mp h2
    have e : x = y := by
      rcases List.mem_cons.mp ((h x).mp List.mem_cons_self) with q | q
      · exact q
      · rcases List.mem_cons.mp ((h y).mpr List.mem_cons_self) with r | r
        · exact r.symm
        · have := a2 x q
          have := a1 y r
          omega
    subst e
    have e2 : xs = ys := asc_uniq b1 b2 fun k => by
      constructor
      · intro q
        rcases List.mem_cons.mp ((h k).mp (List.mem_cons_of_mem _ q)) with r | r
        · have := a1 k q
          omega
        · exact r
      · intro q
        rcases List.mem_cons.mp ((h k).mpr (List.mem_cons_of_mem _ q)) with r | r
        · have := a2 k q
          omega
        · exact r
    rw [e2]
/-! ### both orders are one -/
structure Nm (p : P2) : Prop where
  d0 : 0 < p.2
  bu : p.1.natAbs ≤ 1000000
  bd : p.2.natAbs ≤ 1000
theorem Nm.ne {p : P2} (h : Nm p) : p.2 ≠ 0 := by have := h.d0; omega
theorem Nm.lw {p : P2} (h : Nm p) : 0 < (low p).2 ∧ (low p).2.natAbs ≤ 1000 := ⟨bt_pos h.ne, Nat.le_trans (bt_le _ _) h.bd⟩
theorem Nm.lw1 {p : P2} (h : Nm p) : (low p).1.natAbs ≤ 1000000 := Nat.le_trans (tp_le _ _) h.bu
section
variable {us qs : List P2}
theorem lows_ok (h : ∀ p ∈ qs, Nm p) : ∀ p ∈ qs.map low, 0 < p.2 ∧ p.2.natAbs ≤ 1000 := fun p hp => by
  obtain ⟨q, hq, rfl⟩ := List.mem_map.mp hp
  exact (h q hq).lw
def LL (qs : List P2) : Int := ((lcmF (qs.map low) : Nat) : Int)
def KK (qs : List P2) (p : P2) : Int := keyI (LL qs) (low p)
theorem LL_pos (h : ∀ p ∈ qs, Nm p) : 0 < LL qs := by
  have := (lcmF_ok _ (lows_ok h)).1
  unfold LL
  omega
theorem KK_mul (h : ∀ p ∈ qs, Nm p) {p : P2} (hp : p ∈ qs) : KK qs p * p.2 = p.1 * LL qs := by
  have e := key_mul (lows_ok h) (List.mem_map_of_mem (f := low) hp)
  have n := (h p hp)
  have c := low_cross p.1 p.2
  have b0 := bt_pos (u := p.1) n.ne
  have e' : KK qs p * bt p.1 p.2 = tp p.1 p.2 * LL qs := e
  refine Int.eq_of_mul_eq_mul_right (a := bt p.1 p.2) (by omega) ?_
  calc KK qs p * p.2 * bt p.1 p.2 = (KK qs p * bt p.1 p.2) * p.2 := by ac_rfl
    _ = (tp p.1 p.2 * p.2) * LL qs := by rw [e']; ac_rfl
    _ = p.1 * LL qs * bt p.1 p.2 := by rw [c]; ac_rfl
theorem KK_low (h : ∀ p ∈ qs, Nm p) {p : P2} (hp : p ∈ qs) : lowk (LL qs) (KK qs p) = low p := by
  have e := low_eq (u := KK qs p) (d := LL qs) (u' := p.1) (d' := p.2) (Int.ne_of_gt (LL_pos h)) (h p hp).ne (KK_mul h hp)
  unfold lowk low
  rw [e.1, e.2]
theorem bef_KK (h : ∀ p ∈ qs, Nm p) {p q : P2} (hp : p ∈ qs) (hq : q ∈ qs) : bef p q = true ↔ KK qs p < KK qs q := by
  have e1 := KK_mul h hp
  have e2 := KK_mul h hq
  have L := LL_pos h
  have d1 := (h p hp).d0
  have d2 := (h q hq).d0
  unfold bef
  rw [decide_eq_true_eq]
  have a : p.1 * q.2 * LL qs = KK qs p * (p.2 * q.2) := by
    calc p.1 * q.2 * LL qs = (p.1 * LL qs) * q.2 := by ac_rfl
      _ = KK qs p * (p.2 * q.2) := by rw [← e1]; ac_rfl
  have b : q.1 * p.2 * LL qs = KK qs q * (p.2 * q.2) := by
    calc q.1 * p.2 * LL qs = (q.1 * LL qs) * p.2 := by ac_rfl
      _ = KK qs q * (p.2 * q.2) := by rw [← e2]; ac_rfl
  have dd : 0 < p.2 * q.2 := Int.mul_pos d1 d2
  constructor
  · intro z
    have := Int.mul_lt_mul_of_pos_right z L
    rw [a, b] at this
    exact Int.lt_of_mul_lt_mul_right this (Int.le_of_lt dd)
  · intro z
    have := Int.mul_lt_mul_of_pos_right z dd
    rw [← a, ← b] at this
    exact Int.lt_of_mul_lt_mul_right this (Int.le_of_lt L)
theorem srt_KK (h : ∀ p ∈ us, Nm p) (m : ∀ p, p ∈ qs ↔ p ∈ us) : ((srt us).map (KK qs)).Pairwise (· < ·) ∧ ∀ k, k ∈ (srt us).map (KK qs) ↔ k ∈ qs.map (KK qs) := by
  have hq : ∀ p ∈ qs, Nm p := fun p hp => h p ((m p).mp hp)
  obtain ⟨a, b⟩ := srt_ok (K := KK qs) (us := us) fun p hp q hq' => bef_KK hq ((m p).mpr hp) ((m q).mpr hq')
  refine ⟨a, fun k => (b k).trans ?_⟩
  constructor
  · intro z
    obtain ⟨p, hp, rfl⟩ := List.mem_map.mp z
    exact List.mem_map_of_mem ((m p).mpr hp)
  · intro z
    obtain ⟨p, hp, rfl⟩ := List.mem_map.mp z
    exact List.mem_map_of_mem ((m p).mp hp)
theorem keys_eq : (qs.map low).map (keyI (LL qs)) = qs.map (KK qs) := by rw [List.map_map]; rfl
theorem asc_due (h : ∀ p ∈ us, Nm p) (m : ∀ p, p ∈ qs ↔ p ∈ us) {ks : List Int} (hs : ks.Pairwise (· < ·)) (hm : ∀ k, k ∈ ks ↔ k ∈ (qs.map low).map (keyI (LL qs))) : ks.map (lowk (LL qs)) = (srt us).map low := by
  obtain ⟨a, b⟩ := srt_KK h m
  rw [keys_eq] at hm
  have e := asc_uniq hs a fun k => (hm k).trans (b k).symm
  rw [e, List.map_map]
  refine List.map_congr_left fun p hp => ?_
  exact KK_low (fun p hp => h p ((m p).mp hp)) ((m p).mpr (srt_mem us p hp))
theorem least_due (h : ∀ p ∈ us, Nm p) (m : ∀ p, p ∈ qs ↔ p ∈ us) {k : Int} (hk : k ∈ (qs.map low).map (keyI (LL qs))) (hl : ∀ y ∈ (qs.map low).map (keyI (LL qs)), k ≤ y) : ∃ p r, srt us = p :: r ∧ lowk (LL qs) k = low p := by
  obtain ⟨a, b⟩ := srt_KK h m
  rw [keys_eq] at hk hl
  have z := (b k).mpr hk
  cases e : srt us with
  | nil =>
    rw [e] at z
    cases z
  | cons p r =>
    rw [e] at z a b
    refine ⟨p, r, rfl, ?_⟩
    have hp : p ∈ us := srt_mem us p (by rw [e]; exact List.mem_cons_self)
    rw [← KK_low (fun p hp => h p ((m p).mp hp)) ((m p).mpr hp)]
    have e2 : k = KK qs p := by
      rcases List.mem_cons.mp z with q | q
      · exact q
      · have h1 := (List.pairwise_cons.mp a).1 k q
        have h2 := hl (KK qs p) ((b _).mp List.mem_cons_self)
        omega
    rw [e2]
theorem greatest_due (h : ∀ p ∈ us, Nm p) (m : ∀ p, p ∈ qs ↔ p ∈ us) {k : Int} (hk : k ∈ (qs.map low).map (keyI (LL qs))) (hl : ∀ y ∈ (qs.map low).map (keyI (LL qs)), y ≤ k) : ∃ p r, srt us = r ++ [p] ∧ lowk (LL qs) k = low p := by
  obtain ⟨a, b⟩ := srt_KK h m
  rw [keys_eq] at hk hl
  have z := (b k).mpr hk
  have hne : srt us ≠ [] := fun e => by rw [e] at z; cases z
  have e := (List.dropLast_concat_getLast hne).symm
  generalize (srt us).getLast hne = p at e
  generalize (srt us).dropLast = r at e
  refine ⟨p, r, e, ?_⟩
  have hp : p ∈ us := srt_mem us p (by rw [e]; exact List.mem_append_right _ List.mem_cons_self)
  rw [e] at z a b
  rw [List.map_append] at a z
  rw [← KK_low (fun p hp => h p ((m p).mp hp)) ((m p).mpr hp)]
  have e2 : k = KK qs p := by
    rcases List.mem_append.mp z with q | q
    · have h1 := (List.pairwise_append.mp a).2.2 k q (KK qs p) List.mem_cons_self
      have h2 := hl (KK qs p) ((b _).mp (by rw [List.map_append]; exact List.mem_append_right _ List.mem_cons_self))
      omega
    · exact List.mem_singleton.mp q
  rw [e2]
end
end AX
set_option maxRecDepth 100000
set_option maxHeartbeats 4000000
set_option exponentiation.threshold 10000
/-! Lists made of lists, item by item. -/
namespace LP
open PySem PySem.Spec PyProof.Rows L2 RX
/-- what stands may change at p alone -/
def But (p : Addr) (H H' : Hp) : Prop := ∀ a o, a ≠ p → H a = some o → H' a = some o
theorem But.refl {p : Addr} {H : Hp} : But p H H := fun _ _ _ h => h
theorem But.trans {p : Addr} {H H1 H2 : Hp} (x : But p H H1) (y : But p H1 H2) : But p H H2 := fun a o n h => y a o n (x a o n h)
theorem But.new {p q : Addr} {H : Hp} {o : HO} (h : H q = none) : But p H (upd H q o) := fun a u _ e => by
  rw [upd_ne (ne_of_none e h)]
  exact e
theorem But.put {p : Addr} {H : Hp} {o : HO} : But p H (upd H p o) := fun a u n e => by
  rw [upd_ne n]
  exact e
theorem But.grow {p : Addr} {H H' : Hp} (g : Grow H H') : But p H H' := fun b o _ e => g b o e
inductive All2 {α : Type} (R : α → V → Prop) : List α → List V → Prop
  | nil : All2 R [] []
  | cons {p : α} {x : V} {us : List α} {xs : List V} : R p x → All2 R us xs → All2 R (p :: us) (x :: xs)
section
variable {α β : Type} {R R' : α → V → Prop} {us us' : List α} {xs xs' : List V}
theorem All2.length (h : All2 R us xs) : us.length = xs.length := by
  induction h with
  | nil => rfl
  | cons _ _ ih => rw [List.length_cons, List.length_cons, ih]
theorem All2.imp (m : ∀ p x, R p x → R' p x) (h : All2 R us xs) : All2 R' us xs := by
  induction h with
  | nil => exact .nil
  | cons a _ ih => exact .cons (m _ _ a) ih
theorem All2.append (h : All2 R us xs) (h' : All2 R us' xs') : All2 R (us ++ us') (xs ++ xs') := by
  induction h with
  | nil => exact h'
  | cons a _ ih => exact .cons a ih
theorem All2.get (h : All2 R us xs) : ∀ {i : Nat} {x : V}, xs[i]? = some x → ∃ p, us[i]? = some p ∧ p ∈ us ∧ R p x := by
  induction h with
  | nil => intro i x e; simp at e
  | cons a _ ih =>
    intro i x e
    cases i with
    | zero =>
      simp at e
      subst e
      exact ⟨_, rfl, List.mem_cons_self, a⟩
    | succ i =>
      obtain ⟨p, h1, h2, h3⟩ := ih (by simpa using e)
      exact ⟨p, by simpa using h1, List.mem_cons_of_mem _ h2, h3⟩
theorem All2.take (h : All2 R us xs) : ∀ n, All2 R (us.take n) (xs.take n) := by
  induction h with
  | nil => intro n; rw [List.take_nil, List.take_nil]; exact .nil
  | cons a _ ih =>
    intro n
    cases n with
    | zero => exact .nil
    | succ n => exact .cons a (ih n)
theorem All2.rev (h : All2 R us xs) : All2 R us.reverse xs.reverse := by
  induction h with
  | nil => exact .nil
  | cons a _ ih =>
    rw [List.reverse_cons, List.reverse_cons]
    exact ih.append (.cons a .nil)
theorem All2.split {a b : List α} (h : All2 R (a ++ b) xs) : ∃ ys zs, xs = ys ++ zs ∧ All2 R a ys ∧ All2 R b zs := by
  induction a generalizing xs with
  | nil => exact ⟨[], xs, rfl, .nil, h⟩
  | cons p a ih =>
    cases h with
    | cons r t =>
      obtain ⟨ys, zs, rfl, h1, h2⟩ := ih t
      exact ⟨_ :: ys, zs, rfl, .cons r h1, h2⟩
end
abbrev Rel (α : Type) := α → V → Hp → Prop
/-- what holds of an item goes on to hold, whatever is made, and whatever is done to a list -/
structure Firm {α : Type} (R : Rel α) : Prop where
  grow : ∀ p x H H', Grow H H' → R p x H → R p x H'
  but : ∀ p x H H' D acc, H D = some (.lst acc) → But D H H' → R p x H → R p x H'
section
variable {α : Type} {R : Rel α} {us : List α} {xs : List V} {H H' : Hp} {D : Addr} {acc : List V}
theorem Firm.all (F : Firm R) (g : Grow H H') (h : All2 (fun p x => R p x H) us xs) : All2 (fun p x => R p x H') us xs := h.imp fun p x r => F.grow p x H H' g r
theorem Firm.allB (F : Firm R) (e : H D = some (.lst acc)) (g : But D H H') (h : All2 (fun p x => R p x H) us xs) : All2 (fun p x => R p x H') us xs := h.imp fun p x r => F.but p x H H' D acc e g r
end
/-- a list of such items -/
def LstR {α : Type} (R : Rel α) (us : List α) : PV := fun v H => ∃ a xs, v = .ref a ∧ H a = some (.lst xs) ∧ All2 (fun p x => R p x H) us xs
theorem stb_lstR {α : Type} {R : Rel α} {us : List α} (F : Firm R) : Stb (LstR R us) := fun v H H' g ⟨a, xs, e, h, q⟩ => ⟨a, xs, e, g _ _ h, F.all g q⟩
/-- the same, read -/
def SeqR {α : Type} (K : PySem.W.Frag) (R : Rel α) (us : List α) : PV := fun v H => ∃ a xs, v = .ref a ∧ SqL K H a xs ∧ All2 (fun p x => R p x H) us xs
theorem seq_lst {α : Type} {K : PySem.W.Frag} {R : Rel α} {us : List α} {v : V} {H : Hp} (h : LstR R us v H) : SeqR K R us v H := by
  obtain ⟨a, xs, e, h, q⟩ := h
  exact ⟨a, xs, e, SqL.of h, q⟩
theorem wipe1 {σ : L2.St} {j : Nat} {v : Option V} : wipe ((wipe σ [j]).set j v) [j] = wipe σ [j] := by
  show ((σ.set j none).set j v).set j none = σ.set j none
  rw [List.set_set, List.set_set]
section
variable {α β : Type} {K : PySem.W.Frag} {R1 : Rel α} {R2 : Rel β} {us : List α} {f : α → β} {tsrc te : TE} {σ : L2.St} {H : Hp} {j : Nat} {c : TT} {keep : α → Bool}
theorem evp_mapM {M : List α → Prop} (F1 : Firm R1) (F2 : Firm R2) (hsrc : EvP tsrc σ H (fun v H => ∃ us, M us ∧ SeqR K R1 us v H)) (big : ∀ us, M us → us.length ≤ 1000)
    (hs : ∀ us p x H', M us → p ∈ us → Grow H H' → R1 p x H' → EvP te ((wipe σ [j]).set j (some x)) H' (R2 (f p))) : EvP (tLc (iList K tsrc) (gName j) tYes te [j]) σ H (fun v H => ∃ us, M us ∧ LstR R2 (us.map f) v H) := fun H1 g Q q => hsrc H1 g _ fun v H2 g2 ⟨us, hM, a, xs, ev, hS, hA⟩ => by
  subst ev
  refine ⟨a, rfl, ⟨xs, hS⟩, fun D hD => ?_⟩
  have len := hA.length
  have big2 : 2000 ≤ sizeLine := by decide
  have big := big us hM
  refine lc_list (K := K) (a := a) (xs := xs) (fun k H' => Grow H2 H' ∧ ∃ ys, H' D = some (.lst ys) ∧ All2 (fun p x => R2 p x H') ((us.take k).map f) ys) ⟨grow_new hD, [], upd_same, .nil⟩ (fun k H' _ pv => hS.ext pv.1) (fun k x H' e pv => ?_) (fun H' pv => ?_)
  · obtain ⟨g3, ys, hY, hA2⟩ := pv
    obtain ⟨p, hp, hpm, rp⟩ := hA.get e
    refine ⟨wipe1, ?_⟩
    dsimp only [tYes]
    rw [if_pos rfl]
    refine hs us p x H' hM hpm ((g.tr g2).tr g3) (F1.grow _ _ _ _ g3 rp) H' grow_rfl _ fun y H4 g4 ry => ?_
    refine ⟨ys, g4 _ _ hY, ?_, fun b o eb => ?_, ys ++ [y], upd_same, ?_⟩
    · have := hA2.length
      rw [List.length_map, List.length_take] at this
      omega
    · have nb : b ≠ D := ne_of_none eb hD
      rw [upd_ne nb]
      exact g4 _ _ (g3 _ _ eb)
    · rw [List.take_add_one, hp, List.map_append]
      refine F2.allB (g4 _ _ hY) But.put ((F2.all g4 hA2).append (.cons ry .nil))
  · obtain ⟨g3, ys, hY, hA2⟩ := pv
    rw [← len, List.take_length] at hA2
    exact q _ _ (g2.tr g3) ⟨us, hM, D, ys, rfl, hY, hA2⟩
theorem evp_map (F1 : Firm R1) (F2 : Firm R2) (hsrc : EvP tsrc σ H (SeqR K R1 us)) (big : us.length ≤ 1000)
    (hs : ∀ p x H', p ∈ us → Grow H H' → R1 p x H' → EvP te ((wipe σ [j]).set j (some x)) H' (R2 (f p))) : EvP (tLc (iList K tsrc) (gName j) tYes te [j]) σ H (LstR R2 (us.map f)) :=
  (evp_mapM (M := fun l => l = us) F1 F2 (hsrc.imp fun v H h => ⟨us, rfl, h⟩) (fun l e => by rw [e]; exact big) (fun l p x H' e hp g r => hs p x H' (e ▸ hp) g r)).imp fun v H ⟨l, e, h⟩ => by
    rw [e] at h
    exact h
theorem evp_filter (F1 : Firm R1) (hsrc : EvP tsrc σ H (SeqR K R1 us)) (big : us.length ≤ 1000) (hj : j < σ.length)
    (hs : ∀ p x H', p ∈ us → Grow H H' → R1 p x H' → EvB c ((wipe σ [j]).set j (some x)) H' (keep p)) : EvP (tLc (iList K tsrc) (gName j) c (tVar j) [j]) σ H (LstR R1 (us.filter keep)) := fun H1 g Q q => hsrc H1 g _ fun v H2 g2 ⟨a, xs, ev, hS, hA⟩ => by
  subst ev
  refine ⟨a, rfl, ⟨xs, hS⟩, fun D hD => ?_⟩
  have len := hA.length
  have big2 : 2000 ≤ sizeLine := by decide
  refine lc_list (K := K) (a := a) (xs := xs) (fun k H' => Grow H2 H' ∧ ∃ ys, H' D = some (.lst ys) ∧ All2 (fun p x => R1 p x H') ((us.take k).filter keep) ys) ⟨grow_new hD, [], upd_same, .nil⟩ (fun k H' _ pv => hS.ext pv.1) (fun k x H' e pv => ?_) (fun H' pv => ?_)
  · obtain ⟨g3, ys, hY, hA2⟩ := pv
    obtain ⟨p, hp, hpm, rp⟩ := hA.get e
    refine ⟨wipe1, ?_⟩
    have rp3 := F1.grow _ _ _ _ g3 rp
    refine hs p x H' hpm ((g.tr g2).tr g3) rp3 H' grow_rfl _ fun H4 g4 => ?_
    have tk : (us.take (k + 1)).filter keep = (us.take k).filter keep ++ (if keep p then [p] else []) := by
      rw [List.take_add_one, hp, List.filter_append]
      congr 1
      show [p].filter keep = _
      cases e : keep p <;> simp [e]
    cases ek : keep p with
    | true =>
      rw [if_pos rfl]
      refine ⟨x, List.getElem?_set_self (by show j < (wipe σ [j]).length; rw [wipe_length]; exact hj), ys, g4 _ _ hY, ?_, fun b o eb => ?_, ys ++ [x], upd_same, ?_⟩
      · have h1 := hA2.length
        have h2 := List.length_filter_le keep (us.take k)
        rw [List.length_take] at h2
        omega
      · have nb : b ≠ D := ne_of_none eb hD
        rw [upd_ne nb]
        exact g4 _ _ (g3 _ _ eb)
      · rw [tk, ek]
        refine F1.allB (g4 _ _ hY) But.put ((F1.all g4 hA2).append (.cons (F1.grow _ _ _ _ g4 rp3) .nil))
    | false =>
      rw [if_neg Bool.false_ne_true]
      refine ⟨g3.tr g4, ys, g4 _ _ hY, ?_⟩
      rw [tk, ek]
      show All2 _ (_ ++ []) _
      rw [List.append_nil]
      exact F1.all g4 hA2
  · obtain ⟨g3, ys, hY, hA2⟩ := pv
    rw [← len, List.take_length] at hA2
    exact q _ _ (g2.tr g3) ⟨D, ys, rfl, hY, hA2⟩
end
end LP
namespace LP
open PySem PySem.Spec PyProof.Rows L2
section
variable {σ : L2.St} {H : Hp} {tl : TA} {t1 u : TS} {D : Ends} {i : Nat}
/-- for x in range(n), n told by the arguments; the body is read for any next turn -/
theorem sq_for {n : Nat} (Pv : Nat → L2.St → Hp → Prop) (ha : EvPs tl σ H [IsP (.int (n : Int))]) (big : n ≤ 1000000) (h0 : ∀ H', Grow H H' → Pv 0 σ H')
    (hs : ∀ k σ' H', k < n → Pv k σ' H' → ∀ D' : Ends, (∀ σ2 H2, Pv (k + 1) σ2 H2 → D'.nx σ2 H2) → t1 D' (σ'.set i (some (.int (k : Int)))) H') (hd : ∀ σ' H', Pv n σ' H' → u D σ' H') :
    tSeq (tFor (iRng1 tl) (gName i) t1) u D σ H := ha H grow_rfl _ fun vs H1 g p => by
  match vs, p with
  | [x], ⟨e, _⟩ =>
    cases (show x = .int (n : Int) from e)
    refine ⟨(n : Int), rfl, by omega, by omega, ?_⟩
    rw [Int.toNat_natCast]
    refine for_range (lo := 0) (n := n) Pv (h0 H1 g) (fun k σ' H' hk pv => ?_) hd
    have z := hs k σ' H' hk pv { nx := Pv (k + 1), ct := Pv (k + 1), bk := u D, rt := D.rt } (fun _ _ x => x)
    rw [show (0 : Int) + (k : Int) = (k : Int) by omega]
    exact z
theorem ls_no {c : TT} (h : EvB c σ H false) (q : ∀ H', Grow H H' → D.nx σ H') : tIfS c t1 tNext D σ H := h H grow_rfl _ fun H2 g => iteF (q H2 g)
/-- for x in a list that the body lets stand; the body is read for any next turn -/
theorem sq_forL {K : PySem.W.Frag} {j : Nat} {a : Addr} {xs : List V} (Pv : Nat → L2.St → Hp → Prop) (h : σ[j]? = some (some (.ref a))) (hx : SqL K H a xs) (h0 : Pv 0 σ H) (hl : ∀ k σ' H', k ≤ xs.length → Pv k σ' H' → SqL K H' a xs)
    (hs : ∀ k x σ' H', xs[k]? = some x → Pv k σ' H' → ∀ D' : Ends, (∀ σ2 H2, Pv (k + 1) σ2 H2 → D'.nx σ2 H2) → t1 D' (σ'.set i (some x)) H') (hd : ∀ σ' H', Pv xs.length σ' H' → u D σ' H') :
    tSeq (tFor (iList K (tVar j)) (gName i) t1) u D σ H := by
  refine ⟨_, h, a, rfl, ⟨_, hx⟩, ?_⟩
  exact for_list (xs := xs) Pv h0 hl (fun k x σ' H' e pv => hs k x σ' H' e pv { nx := Pv (k + 1), ct := Pv (k + 1), bk := u D, rt := D.rt } (fun _ _ x => x)) hd
end
end LP
set_option maxRecDepth 100000
set_option maxHeartbeats 4000000
set_option exponentiation.threshold 10000
namespace B3
open PySem PySem.Spec PyProof.Rows L2 RX LP AX TX
/-- items: fractions, numbers, ints -/
def RatR (C : Addr) : Rel P2 := fun p x H => ∃ a dx, x = .ref a ∧ H a = some (.ins C dx (flds p.1 p.2))
def NumR (C : Addr) : Rel P2 := fun p x H => (x = .int p.1 ∧ p.2 = 1) ∨ RatR C p x H
def IntR : Rel Int := fun k x _ => x = .int k
theorem firm_rat {C : Addr} : Firm (RatR C) := ⟨fun p x H H' g ⟨a, dx, e, h⟩ => ⟨a, dx, e, g _ _ h⟩, fun p x H H' D acc hD b ⟨a, dx, e, h⟩ => ⟨a, dx, e, b _ _ (fun z => by rw [z, hD] at h; cases h) h⟩⟩
theorem firm_num {C : Addr} : Firm (NumR C) := ⟨fun p x H H' g h => h.elim .inl fun h => .inr (firm_rat.grow p x H H' g h), fun p x H H' D acc hD b h => h.elim .inl fun h => .inr (firm_rat.but p x H H' D acc hD b h)⟩
theorem firm_int : Firm IntR := ⟨fun _ _ _ _ _ h => h, fun _ _ _ _ _ _ _ _ h => h⟩
theorem all_int {ks : List Int} {xs : List V} {H : Hp} (h : All2 (fun p x => IntR p x H) ks xs) : xs = ks.map V.int := by
  induction h with
  | nil => rfl
  | cons r _ ih => rw [List.map_cons, ih, show _ = V.int _ from r]
theorem int_all {H : Hp} : ∀ {ks : List Int}, All2 (fun p x => IntR p x H) ks (ks.map V.int)
  | [] => .nil
  | _ :: _ => .cons rfl int_all
abbrev psI : List Str := ["self", "top", "bottom"]
/-- the class's own maker -/
structure RMk (P : Program) (w : World) (K : PySem.W.Frag) (mg : Str → Option Value) (base : Heap) (C CI fI : Addr) (fdI : FuncData) : Prop where
  mkc : Mk K C fI
  ok : FnOk P w K mg base (L2.CX P w) 1 fI fdI psI (spInit C CI)
  b2 : Binds K fdI psI []
  b1 : ∃ ds, Vals [V.int 1] ds ∧ Binds K fdI psI ds
theorem sA_setR {te : TE} {σ : L2.St} {H : Hp} {u : TS} {D : Ends} {i : Nat} (h : te σ H fun v H1 => u D (σ.set i (some v)) H1) : tSeq (tAsg te (gName i)) u D σ H := h
theorem sA_asgR {te : TE} {σ : L2.St} {H : Hp} {u : TS} {D : Ends} {g : TG} (h : te σ H fun v H1 => g v σ H1 fun σ' H' => u D σ' H') : tSeq (tAsg te g) u D σ H := h
theorem lt_grow {n a b : Nat} (h : n < 2 ^ a) (hab : a ≤ b) : n < 2 ^ b := Nat.lt_of_lt_of_le h (Nat.pow_le_pow_right (by decide) hab)
theorem grow_make {H : Hp} {C x dx : Addr} {o : HO} (nx : H x = none) (ndx : H dx = none) (ne : dx ≠ x) : Grow H (upd (upd (upd H dx (.own x)) x (.ins C dx [])) x o) := fun b u e => by
  rw [upd_upd, upd_ne (ne_of_none e nx), upd_ne (ne_of_none e ndx)]
  exact e
section
variable {C CI : Addr} {σ : L2.St} {H : Hp} {ta tb : TE} {u d : Int} {E : XK} {i : Nat}
theorem ret_tup {te : TE} {tl : TA} {D : Ends} (h : te σ H (fun y H1 => tl σ H1 fun xs H2 => (y :: xs).length ≤ sizeLine ∧ ∀ p, H2 p = none → D.rt (.ref p) (upd H2 p (.tup (y :: xs))))) : tRet (tTup (tCons te tl)) D σ H := h
theorem ret_v {te : TE} {D : Ends} (h : te σ H D.rt) : tRet te D σ H := h
theorem evp_mk (ha : EvP ta σ H (IsP (.int u))) (hb : EvP tb σ H (IsP (.int d))) (d0 : d ≠ 0) (bu : u.natAbs < 2 ^ 4000) (bd : d.natAbs < 2 ^ 4000) : EvP (tMake C (spInit C CI) [] E (tCons ta (tCons tb tNil))) σ H (RatR C (tp u d, bt u d)) := fun H1 g Q q =>
  ha H1 g _ fun x H2 g2 ex => hb H2 (g.tr g2) _ fun y H3 g3 ey => fun a dx na nd ne => by
    cases (show x = .int u from ex)
    cases (show y = .int d from ey)
    exact ⟨a, dx, u, d, rfl, upd_same, fun _ => ⟨bu, bd, rfl, q _ _ ((g2.tr g3).tr (grow_make na nd ne)) ⟨a, dx, rfl, upd_same⟩⟩, fun k => absurd k d0⟩
theorem evp_vi (h : σ[i]? = some (some (.int u))) : EvP (tVar i) σ H (IsP (.int u)) := evp_var h rfl stb_is
end
/-- Ratio.of(x), x a number -/
def spOf (C : Addr) : Sp := fun vs H Q _ => ∃ x p, vs = [.ref C, x] ∧ NumR C p x H ∧ p.1.natAbs < 2 ^ 4000 ∧ ∀ v H', Grow H H' → RatR C p v H' → Q v H'
/-- the class method of -/
structure OfF (P : Program) (w : World) (K : PySem.W.Frag) (mg : Str → Option Value) (base : Heap) (C : Addr) (mc : Value) (p g : Addr) (fd : FuncData) : Prop where
  rd : ClX.CRead K C mc
  cm : ClX.CMet K C mc "of" p g
  ok : FnOk P w K mg base (L2.CX P w) 4 g fd ["cls", "number"] (spOf C)
  b : Binds K fd ["cls", "number"] []
abbrev sWhole : Stmt := top 11
abbrev sAsc : Stmt := top 12
abbrev sLeast : Stmt := top 13
abbrev sGreat : Stmt := top 14
structure Lw (p : P2) : Prop where
  pos : 0 < p.2
  bd : p.2.natAbs ≤ 1000
  bu : p.1.natAbs ≤ 1000000
abbrev LI (ps : List P2) : Int := ((lcmF ps : Nat) : Int)
def WholeR (ps : List P2) : PV := fun v H => ∃ T l, v = .ref T ∧ H T = some (.tup [.ref l, .int (LI ps)]) ∧ H l = some (.lst ((ps.map (keyI (LI ps))).map V.int))
structure Args (ps : List P2) : Prop where
  lw : ∀ p ∈ ps, Lw p
  len : ps.length ≤ 20
def spWhole (K : PySem.W.Frag) (C : Addr) : Sp := fun vs H Q _ => ∃ v ps, vs = [v] ∧ SeqR K (NumR C) ps v H ∧ Args ps ∧ ∀ v H', Grow H H' → WholeR ps v H' → Q v H'
theorem Args.two {ps : List P2} (h : Args ps) : ∀ p ∈ ps, 0 < p.2 ∧ p.2.natAbs ≤ 1000 := fun p hp => ⟨(h.lw p hp).pos, (h.lw p hp).bd⟩
theorem Args.take {ps : List P2} (h : Args ps) (n : Nat) : Args (ps.take n) := ⟨fun p hp => h.lw p (List.mem_of_mem_take hp), by rw [List.length_take]; have := h.len; omega⟩
theorem Args.lcm {ps : List P2} (h : Args ps) : 0 < lcmF ps ∧ lcmF ps < 2 ^ 200 := by
  obtain ⟨a, b, _⟩ := lcmF_ok ps h.two
  refine ⟨a, Nat.lt_of_le_of_lt b (Nat.lt_of_le_of_lt (Nat.pow_le_pow_right (by decide) h.len) (by decide))⟩
theorem fdiv_le {L b : Int} (hL : 0 ≤ L) (hb : 0 < b) : (L.fdiv b).natAbs ≤ L.natAbs := by
  rw [Int.fdiv_eq_ediv_of_nonneg _ (Int.le_of_lt hb)]
  have h1 : 0 ≤ L / b := Int.ediv_nonneg hL (Int.le_of_lt hb)
  have h2 : L / b ≤ L := Int.ediv_le_self b hL
  omega
theorem Args.key {ps : List P2} (h : Args ps) {k : Int} (hk : k ∈ ps.map (keyI (LI ps))) : k.natAbs < 2 ^ 4000 := by
  obtain ⟨p, hp, rfl⟩ := List.mem_map.mp hk
  have l := h.lcm
  have w := h.lw p hp
  unfold keyI
  rw [Int.natAbs_mul]
  have f := fdiv_le (L := LI ps) (b := p.2) (Int.natCast_nonneg _) w.pos
  have e : (LI ps).natAbs = lcmF ps := Int.natAbs_natCast _
  refine Nat.lt_of_le_of_lt (Nat.mul_le_mul w.bu f) ?_
  rw [e]
  have : 1000000 * lcmF ps ≤ 1000000 * 2 ^ 200 := Nat.mul_le_mul_left _ (Nat.le_of_lt l.2)
  exact Nat.lt_of_le_of_lt this (by decide)
section
variable {P : Program} {w : World} {K : PySem.W.Frag} {mg : Str → Option Value} {base : Heap} {C CI CQ f fI fW p g : Addr} {mc : Value} {fd fdI fdO fdW : FuncData}
theorem scOf : FnScope ["cls", "number"] ["cls", "number"] (defScope sOf) := ⟨rfl, rfl, rfl, by decide +kernel, rfl, by decide +kernel, by decide +kernel⟩
abbrev nsWhole : List Str := ["numbers", "ratios", "bottom", "ratio", "number"]
theorem scWhole : FnScope nsWhole ["numbers"] (defScope sWhole) := ⟨rfl, rfl, rfl, by decide +kernel, rfl, by decide +kernel, by decide +kernel⟩
theorem kr_int (T : RTx K mg C CI CQ) {H : Hp} (u : Int) : KR K C H (.int u) false := ⟨_, .base (.int u), T.kOf _ (by decide +kernel)⟩
theorem ok_of (F : Fun K "of" "Ratio.of" sOf f fd) (T : RTx K mg C CI CQ) (R : RMk P w K mg base C CI fI fdI) : FnOk P w K mg base (L2.CX P w) 4 f fd ["cls", "number"] (spOf C) := by
  refine F.okX scOf (fun vs H Q E h => ?_) (fun cdv A outer s H vs Q E hr h => ?_)
  · obtain ⟨x, r, rfl, _⟩ := h
    rfl
  · obtain ⟨x, p, rfl, hx, bu, q⟩ := h
    obtain ⟨ds, hd, b1⟩ := R.b1
    refine ⟨_, pss_cons (ps_if (pt_val (pe_callB call_isi (by rfl) T.isi (by decide +kernel) (pa_cons (pv 1) (pa_cons (pe_glob (v := .ref C) (by rfl) T.gR rfl) pa_nil)))) (pss_one (ps_ret (pv 1))) pss_nil)
      (pss_one (ps_ret (pe_make R.mkc R.ok (hr.mono (by decide)) (by rfl) T.gR b1 hd (passes_call (E := E) (takes_of rfl rfl rfl rfl) fun _ _ _ _ z => z) (pa_cons (pv 1) pa_nil)))), ?_⟩
    show tSeq _ _ _ [some (V.ref C), some x] H
    rcases hx with ⟨rfl, e1⟩ | hx
    · obtain ⟨t, ty, kr⟩ := kr_int T (H := H) p.1
      refine sA_no (ans_val (val_isi (val_var rfl) ty kr (.own C))) ?_
      refine ⟨_, rfl, fun a dx na nd ne => ⟨a, dx, p.1, 1, rfl, upd_same, fun _ => ⟨bu, by decide, rfl, ?_⟩, fun k => absurd k (by decide)⟩⟩
      refine q _ _ (grow_make na nd ne) ⟨a, dx, rfl, ?_⟩
      rw [upd_same, tp_one, bt_one, e1]
    · obtain ⟨a, dx, rfl, ea⟩ := hx
      obtain ⟨t, ty, kr⟩ := T.kr ea
      exact sA_yes (ans_val (val_isi (val_var rfl) ty kr (.own C))) (st_ret (val_var rfl) (q _ _ grow_rfl ⟨a, dx, rfl, ea⟩))
theorem ok_whole (F : Fun K "whole" "whole" sWhole f fd) (T : RTx K mg C CI CQ) (B : Bl mg) (O : OfF P w K mg base C mc p g fdO) : FnOk P w K mg base CX0 5 f fd ["numbers"] (spWhole K C) := by
  refine F.ok scWhole (fun vs H Q E h => ?_) (fun cdv A outer s H vs Q E hr h => ?_)
  · obtain ⟨v, ps, rfl, _⟩ := h
    rfl
  · obtain ⟨v, ps, rfl, hv, ha, q⟩ := h
    have nd := scWhole.nd
    refine ⟨_, pss_cons (ps_setLc (i := 1) (own := [("number", 4)]) (g := gName 4) (tt := tYes) (by rfl) nd rfl rfl (sw_true rfl rfl rfl (by decide +kernel)) (pi_list (pv 0)) (blkOk_by (own := [("number", 4)]) (N := nsWhole) (sc := defScope sWhole) (by decide +kernel)) (fun _ _ _ _ _ => pg_name (i := 4) nd rfl (Or.inl rfl)) (fun _ _ _ _ _ => pts_nil)
        (fun _ _ _ _ _ => ClX.pe_cmeth (E := E0) (pe_glob (v := .ref C) (by rfl) T.gR rfl) O.rd O.cm (O.ok.raw O.b .nil) (hr.mono (by decide)) passL (pa_cons (pv 4) pa_nil)))
      (pss_cons (ps_set (i := 2) nd rfl (Or.inr rfl) pe_int)
      (pss_cons (ps_for PassesOwn.never rfl (pi_list (pv 1)) (pg_name (i := 3) nd rfl (Or.inl rfl)) (pss_one (ps_set (i := 2) nd rfl (Or.inr rfl) (pe_callBfun cr_lcm (by rfl) B.lcm (pa_cons (pv 2) (pa_cons (pe_fld (pv 3) rfl) pa_nil))))))
      (pss_one (ps_ret (pe_tup (pa_cons (pe_lc (te := tOp (rI CMulW fun i j => .int (i * j)) (tFld K (tVar 3) "top") (tOp (rI CDivX fun i j => .int (i.fdiv j)) (tVar 2) (tFld K (tVar 3) "bottom"))) (own := [("ratio", 3)]) (g := gName 3) (tt := tYes) (by rfl) nd (pi_list (pv 1)) (blkOk_by (own := [("ratio", 3)]) (N := nsWhole) (sc := defScope sWhole) (by decide +kernel)) (fun _ _ _ _ _ => pg_name (i := 3) nd rfl (Or.inl rfl)) (fun _ _ _ _ _ => pts_nil)
        (fun _ _ _ _ _ => pe_op op_mulW (pe_fld (pv 3) rfl) (pe_op op_fdivX (pv 2) (pe_fld (pv 3) rfl)))) (pa_cons (pv 2) pa_nil))))))), ?_⟩
    show tSeq _ _ _ [some v, none, none, none, none] H
    have big : ps.length ≤ 1000 := by have := ha.len; omega
    have stbN : Stb (SeqR K (NumR C) ps) := fun v H H' g ⟨a, xs, e, h, z⟩ => ⟨a, xs, e, h.ext g, firm_num.all g z⟩
    refine sq_set (P := LstR (RatR C) (ps.map fun p => p)) (evp_map (K := K) (R1 := NumR C) (us := ps) (f := fun p => p) firm_num firm_rat (evp_var rfl hv stbN) big (fun p x H' hp g hx => ?_)) fun v1 H1 g1 pv => ?_
    · intro H2 g2 Q2 q2
      refine ⟨rfl, x, rfl, x, p, rfl, firm_num.grow p x _ _ g2 hx, Nat.lt_of_le_of_lt (ha.lw p hp).bu (by decide), fun v H3 g3 hr => q2 v H3 g3 hr⟩
    · rw [List.map_id'] at pv
      obtain ⟨l, xs, rfl, hl, hA⟩ := pv
      have hlen := hA.length
      refine sA_set val_c ?_
      show tSeq _ _ _ [some v, some (.ref l), some (.int 1), none, none] H1
      refine sq_forL (K := K) (xs := xs) (fun k σ' H' => ∃ y3, σ' = [some v, some (.ref l), some (.int ((lcmF (ps.take k) : Nat) : Int)), y3, none] ∧ Grow H1 H') rfl (SqL.of hl) ⟨_, rfl, grow_rfl⟩ (fun k σ' H' _ ⟨_, _, g⟩ => SqL.of (g _ _ hl)) ?_ ?_
      · rintro k x σ' H' e ⟨y3, rfl, g⟩ D' hD'
        obtain ⟨p, hp, hpm, rp⟩ := hA.get e
        obtain ⟨a, dx, rfl, ea⟩ := firm_rat.grow _ _ _ _ g rp
        have w1 := ha.lw p hpm
        have l1 := (ha.take k).lcm
        refine st_set (v := .int ((lcmF (ps.take (k + 1)) : Nat) : Int)) (fun Q2 q2 => ⟨_, rfl, (v_bot T (i := 3) rfl ea) _ ⟨_, _, rfl, by omega, w1.pos, ?_, ?_, ?_⟩⟩) (hD' _ _ ⟨_, rfl, g⟩)
        · rw [Int.natAbs_natCast]; exact lt_grow l1.2 (by decide)
        · exact Nat.lt_of_le_of_lt w1.bd (by decide)
        · rw [Int.natAbs_natCast, ← lcm_take hp]
          exact q2
      · rintro σ' H2 ⟨y3, rfl, g2⟩
        rw [← hlen, List.take_length]
        have l1 := ha.lcm
        have hAll := firm_rat.all g2 hA
        refine ret_tup ((evp_map (K := K) (R1 := RatR C) (R2 := IntR) (us := ps) (f := keyI (LI ps)) (j := 3) (tsrc := tVar 1) (σ := [some v, some (.ref l), some (.int (LI ps)), y3, none]) (H := H2) (te := tOp (rI CMulW fun i j => .int (i * j)) (tFld K (tVar 3) "top") (tOp (rI CDivX fun i j => .int (i.fdiv j)) (tVar 2) (tFld K (tVar 3) "bottom"))) firm_rat firm_int (evp_var rfl (seq_lst ⟨l, xs, rfl, g2 _ _ hl, hAll⟩) (fun v H H' g ⟨a, xs, e, h, z⟩ => ⟨a, xs, e, h.ext g, firm_rat.all g z⟩)) big (fun p x H' hp g hx => ?_)) H2 grow_rfl _ fun y H3 g3 py => ⟨_, rfl, (by show 2 ≤ sizeLine; decide), fun t ht => q _ _ (((g1.tr g2).tr g3).tr (grow_new ht)) ?_⟩)
        · intro H4 g4 Q4 q4
          obtain ⟨a, dx, rfl, ea⟩ := firm_rat.grow _ _ _ _ g4 hx
          have w1 := ha.lw p hp
          have f1 := fdiv_le (L := LI ps) (b := p.2) (Int.natCast_nonneg _) w1.pos
          have eL : (LI ps).natAbs = lcmF ps := Int.natAbs_natCast _
          refine (v_top T (i := 3) rfl ea) _ ⟨_, rfl, (v_bot T (i := 3) rfl ea) _ ⟨_, _, rfl, rfl, div_x (by have := w1.pos; omega) (b := 4000) (Nat.lt_of_le_of_lt w1.bd (by decide)) (by decide) (by decide), ?_⟩⟩
          refine ⟨_, _, rfl, rfl, wide_mul (a := 100) (b := 200) (Nat.lt_of_le_of_lt w1.bu (by decide)) (Nat.lt_of_le_of_lt f1 (by rw [eL]; exact l1.2)) (by decide) (by decide) (by decide), ?_⟩
          exact q4 _ _ grow_rfl rfl
        · obtain ⟨k, ys, rfl, hk, hi⟩ := py
          rw [all_int hi] at hk
          exact ⟨t, k, rfl, upd_same, grow_new ht _ _ hk⟩
end
end B3
set_option maxRecDepth 100000
set_option maxHeartbeats 4000000
set_option exponentiation.threshold 10000
namespace B3
open PySem PySem.Spec PyProof.Rows L2 RX LP AX TX
abbrev keysOf (ps : List P2) : List Int := ps.map (keyI (LI ps))
def Asc (ps : List P2) (ks : List Int) : Prop := ks.Pairwise (· < ·) ∧ ∀ k, k ∈ ks ↔ k ∈ keysOf ps
def spAsc (K : PySem.W.Frag) (C : Addr) : Sp := fun vs H Q _ => ∃ v ps, vs = [v] ∧ SeqR K (NumR C) ps v H ∧ Args ps ∧ ∀ v H' ks, Grow H H' → Asc ps ks → LstR (RatR C) (ks.map (lowk (LI ps))) v H' → Q v H'
def spEnd (K : PySem.W.Frag) (C : Addr) (ord : Int → Int → Prop) : Sp := fun vs H Q _ => ∃ v ps, vs = [v] ∧ SeqR K (NumR C) ps v H ∧ Args ps ∧ ps ≠ [] ∧ ∀ v H' m, Grow H H' → m ∈ keysOf ps → (∀ y ∈ keysOf ps, ord m y) → RatR C (lowk (LI ps) m) v H' → Q v H'
abbrev spLeast (K : PySem.W.Frag) (C : Addr) : Sp := spEnd K C (fun m y => m ≤ y)
abbrev spGreat (K : PySem.W.Frag) (C : Addr) : Sp := spEnd K C (fun m y => y ≤ m)
structure WhF (P : Program) (w : World) (K : PySem.W.Frag) (mg : Str → Option Value) (base : Heap) (C f : Addr) (fd : FuncData) : Prop where
  ok : FnOk P w K mg base CX0 5 f fd ["numbers"] (spWhole K C)
  mg : mg "whole" = some (.ref f)
  kp : PySem.W.keepIn K (.ref f) = true
  b : Binds K fd ["numbers"] []
theorem LI_ne {ps : List P2} (h : Args ps) : LI ps ≠ 0 := by
  have := h.lcm
  show ((lcmF ps : Nat) : Int) ≠ 0
  omega
theorem LI_lt {ps : List P2} (h : Args ps) : (LI ps).natAbs < 2 ^ 4000 := by rw [Int.natAbs_natCast]; exact lt_grow h.lcm.2 (by decide)
section
variable {P : Program} {w : World} {K : PySem.W.Frag} {mg : Str → Option Value} {base : Heap} {C CI CQ f fI fW : Addr} {fd fdI fdW : FuncData}
abbrev nsAsc : List Str := ["numbers", "tops", "bottom", "top"]
abbrev nsEnd : List Str := ["numbers", "tops", "bottom"]
theorem scAsc : FnScope nsAsc ["numbers"] (defScope sAsc) := ⟨rfl, rfl, rfl, by decide +kernel, rfl, by decide +kernel, by decide +kernel⟩
theorem scLeast : FnScope nsEnd ["numbers"] (defScope sLeast) := ⟨rfl, rfl, rfl, by decide +kernel, rfl, by decide +kernel, by decide +kernel⟩
theorem scGreat : FnScope nsEnd ["numbers"] (defScope sGreat) := ⟨rfl, rfl, rfl, by decide +kernel, rfl, by decide +kernel, by decide +kernel⟩
theorem evp_sortedSet {σ : L2.St} {H : Hp} {i : Nat} {l : Addr} {ns : List Int} (h : σ[i]? = some (some (.ref l))) (hl : H l = some (.lst (ns.map V.int))) (hn : ns.length ≤ 20) :
    EvP (tCB (rSortedSet w) (tCons (tCB (rSetL w K) (tCons (tVar i) tNil)) tNil)) σ H (fun v H => ∃ ks : List Int, (ks.Pairwise (· < ·) ∧ (∀ k, k ∈ ks ↔ k ∈ ns) ∧ ks.length ≤ 20) ∧ SeqR K IntR ks v H) := fun H1 g Q q => by
  have sb : 100 < scanBound := by unfold scanBound; decide
  refine ⟨_, h, l, ns, rfl, SqL.of (g _ _ hl), by omega, fun p n hp hnone => ⟨p, _, n, rfl, upd_same, by omega, fun ks p2 hs hm hlen h2 => ?_⟩⟩
  refine q _ _ ((grow_new hnone).tr (grow_new h2)) ⟨ks, ⟨hs, fun k => (hm k).trans decide_eq_true_iff, by omega⟩, p2, ks.map V.int, rfl, SqL.of upd_same, int_all⟩
theorem ok_asc (F : Fun K "ascending" "ascending" sAsc f fd) (T : RTx K mg C CI CQ) (B : Bl mg) (R : RMk P w K mg base C CI fI fdI) (W : WhF P w K mg base C fW fdW) : FnOk P w K mg base CX0 6 f fd ["numbers"] (spAsc K C) := by
  refine F.ok scAsc (fun vs H Q E h => ?_) (fun cdv A outer s H vs Q E hr h => ?_)
  · obtain ⟨v, ps, rfl, _⟩ := h
    rfl
  · obtain ⟨v, ps, rfl, hv, ha, q⟩ := h
    have nd := scAsc.nd
    refine ⟨_, pss_cons (ps_asg (pe_call W.ok (hr.mono (by decide)) (by rfl) W.mg W.kp W.b .nil pass0 (pa_cons (pv 0) pa_nil)) (pg_tup (by rfl) (pgs_cons (pg_name (i := 1) nd rfl (Or.inl rfl)) (pgs_cons (pg_name (i := 2) nd rfl (Or.inr rfl)) pgs_nil))))
      (pss_one (ps_ret (pe_lc (te := tMake C (spInit C CI) [] E0 (tCons (tVar 3) (tCons (tVar 2) tNil))) (own := [("top", 3)]) (g := gName 3) (tt := tYes) (by rfl) nd (pi_list (pe_callB (cr_sortedSet (by rfl)) (by rfl) B.sorted (by decide +kernel) (pa_cons (pe_callTy (call_setL (by rfl)) (by rfl) B.set (by decide +kernel) (pa_cons (pv 1) pa_nil)) pa_nil)))
        (blkOk_by (own := [("top", 3)]) (N := nsAsc) (sc := defScope sAsc) (by decide +kernel)) (fun _ _ _ _ _ => pg_name (i := 3) nd rfl (Or.inl rfl)) (fun _ _ _ _ _ => pts_nil)
        (fun _ _ _ _ _ => pe_make R.mkc R.ok (hr.mono (by decide)) (by rfl) T.gR R.b2 .nil passL (pa_cons (pv 3) (pa_cons (pv 2) pa_nil)))))), ?_⟩
    show tSeq _ _ _ [some v, none, none, none] H
    refine sA_asgR ⟨_, rfl, v, ps, rfl, hv, ha, fun r H1 g1 hW => ?_⟩
    obtain ⟨t, l, rfl, ht, hl⟩ := hW
    refine ⟨t, _, rfl, SqT.of ht, rfl, _, _, rfl, _, _, rfl, rfl, ?_⟩
    show tRet _ _ [some v, some (.ref l), some (.int (LI ps)), none] H1
    have len : (keysOf ps).length ≤ 20 := by rw [List.length_map]; exact ha.len
    refine ret_v ((evp_mapM (K := K) (R1 := IntR) (R2 := RatR C) (f := lowk (LI ps)) (j := 3) (σ := [some v, some (.ref l), some (.int (LI ps)), none]) (H := H1) (te := tMake C (spInit C CI) [] E0 (tCons (tVar 3) (tCons (tVar 2) tNil))) firm_int firm_rat (evp_sortedSet (w := w) (ns := keysOf ps) rfl hl len) (fun ks h => by have := h.2.2; omega) (fun ks k x H' hM hk g hx => ?_)) H1 grow_rfl _ fun y H2 g2 ⟨ks, hM, hy⟩ => ?_)
    · cases (show x = .int k from hx)
      exact evp_mk (evp_vi rfl) (evp_vi rfl) (LI_ne ha) (ha.key ((hM.2.1 k).mp hk)) (LI_lt ha)
    · exact q _ _ ks (g1.tr g2) ⟨hM.1, hM.2.1⟩ hy
theorem ok_least (F : Fun K "least" "least" sLeast f fd) (T : RTx K mg C CI CQ) (B : Bl mg) (R : RMk P w K mg base C CI fI fdI) (W : WhF P w K mg base C fW fdW) : FnOk P w K mg base CX0 6 f fd ["numbers"] (spLeast K C) := by
  refine F.ok scLeast (fun vs H Q E h => ?_) (fun cdv A outer s H vs Q E hr h => ?_)
  · obtain ⟨v, ps, rfl, _⟩ := h
    rfl
  · obtain ⟨v, ps, rfl, hv, ha, hne, q⟩ := h
    have nd := scLeast.nd
    refine ⟨_, pss_cons (ps_asg (pe_call W.ok (hr.mono (by decide)) (by rfl) W.mg W.kp W.b .nil pass0 (pa_cons (pv 0) pa_nil)) (pg_tup (by rfl) (pgs_cons (pg_name (i := 1) nd rfl (Or.inl rfl)) (pgs_cons (pg_name (i := 2) nd rfl (Or.inl rfl)) pgs_nil))))
      (pss_one (ps_ret (pe_make (E := E0) R.mkc R.ok (hr.mono (by decide)) (by rfl) T.gR R.b2 .nil passL (pa_cons (pe_callB (cr_min (by rfl)) (by rfl) B.min (by decide +kernel) (pa_cons (pv 1) pa_nil)) (pa_cons (pv 2) pa_nil))))), ?_⟩
    show tSeq _ _ _ [some v, none, none] H
    refine sA_asgR ⟨_, rfl, v, ps, rfl, hv, ha, fun r H1 g1 hW => ?_⟩
    obtain ⟨t, l, rfl, ht, hl⟩ := hW
    refine ⟨t, _, rfl, SqT.of ht, rfl, _, _, rfl, _, _, rfl, rfl, ?_⟩
    show tRet _ _ [some v, some (.ref l), some (.int (LI ps))] H1
    have len : 0 < (keysOf ps).length := by rw [List.length_map]; exact List.length_pos_iff.mpr hne
    refine ⟨_, rfl, l, keysOf ps, rfl, SqL.of hl, len, fun m hm hle => ?_⟩
    refine ⟨_, rfl, fun a dx na nd ne => ⟨a, dx, m, LI ps, rfl, upd_same, fun _ => ⟨ha.key hm, LI_lt ha, rfl, ?_⟩, fun k => absurd k (LI_ne ha)⟩⟩
    exact q _ _ m (g1.tr (grow_make na nd ne)) hm hle ⟨a, dx, rfl, upd_same⟩
theorem ok_great (F : Fun K "greatest" "greatest" sGreat f fd) (T : RTx K mg C CI CQ) (B : Bl mg) (R : RMk P w K mg base C CI fI fdI) (W : WhF P w K mg base C fW fdW) : FnOk P w K mg base CX0 6 f fd ["numbers"] (spGreat K C) := by
  refine F.ok scGreat (fun vs H Q E h => ?_) (fun cdv A outer s H vs Q E hr h => ?_)
  · obtain ⟨v, ps, rfl, _⟩ := h
    rfl
  · obtain ⟨v, ps, rfl, hv, ha, hne, q⟩ := h
    have nd := scGreat.nd
    refine ⟨_, pss_cons (ps_asg (pe_call W.ok (hr.mono (by decide)) (by rfl) W.mg W.kp W.b .nil pass0 (pa_cons (pv 0) pa_nil)) (pg_tup (by rfl) (pgs_cons (pg_name (i := 1) nd rfl (Or.inl rfl)) (pgs_cons (pg_name (i := 2) nd rfl (Or.inl rfl)) pgs_nil))))
      (pss_one (ps_ret (pe_make (E := E0) R.mkc R.ok (hr.mono (by decide)) (by rfl) T.gR R.b2 .nil passL (pa_cons (pe_callB (cr_max (by rfl)) (by rfl) B.max (by decide +kernel) (pa_cons (pv 1) pa_nil)) (pa_cons (pv 2) pa_nil))))), ?_⟩
    show tSeq _ _ _ [some v, none, none] H
    refine sA_asgR ⟨_, rfl, v, ps, rfl, hv, ha, fun r H1 g1 hW => ?_⟩
    obtain ⟨t, l, rfl, ht, hl⟩ := hW
    refine ⟨t, _, rfl, SqT.of ht, rfl, _, _, rfl, _, _, rfl, rfl, ?_⟩
    show tRet _ _ [some v, some (.ref l), some (.int (LI ps))] H1
    have len : 0 < (keysOf ps).length := by rw [List.length_map]; exact List.length_pos_iff.mpr hne
    refine ⟨_, rfl, l, keysOf ps, rfl, SqL.of hl, len, fun m hm hle => ?_⟩
    refine ⟨_, rfl, fun a dx na nd ne => ⟨a, dx, m, LI ps, rfl, upd_same, fun _ => ⟨ha.key hm, LI_lt ha, rfl, ?_⟩, fun k => absurd k (LI_ne ha)⟩⟩
    exact q _ _ m (g1.tr (grow_make na nd ne)) hm hle ⟨a, dx, rfl, upd_same⟩
end
end B3
set_option maxRecDepth 100000
set_option maxHeartbeats 4000000
namespace B3
open PySem PySem.Spec PyProof.Rows L2 RX LP
abbrev sPen : Stmt := top 16
abbrev sDraw : Stmt := top 17
/-- the pen at p: the script's numbers, at l; how many were read; what is left of a large one -/
structure PenAt (H : Hp) (p l : Addr) (ns : List Int) (k r : Int) : Prop where
  pen : H p = some (.lst [.ref l, .int k, .int r])
  lst : H l = some (.lst (ns.map V.int))
  ne : l ≠ p
  len : ns.length ≤ 63
  k0 : 0 ≤ k
theorem PenAt.but {H H' : Hp} {p l : Addr} {ns : List Int} {k r k' r' : Int} (P : PenAt H p l ns k r) (b : But p H H') (h : H' p = some (.lst [.ref l, .int k', .int r'])) (h0 : 0 ≤ k') : PenAt H' p l ns k' r' := ⟨h, b l _ P.ne P.lst, P.ne, P.len, h0⟩
def spPen (K : PySem.W.Frag) : Sp := fun vs H Q _ => ∃ (a : Addr) (ns : List Int), vs = [.ref a] ∧ SqL K H a (ns.map V.int) ∧ ns.length ≤ 63 ∧
  ∀ (p l : Addr) (H' : Hp), H p = none → (∀ b o, H b = some o → H' b = some o) → PenAt H' p l ns 0 0 → Q (.ref p) H'
def spDraw : Sp := fun vs H Q _ => ∃ (p l : Addr) (ns : List Int) (k r many : Int), vs = [.ref p, .int many] ∧ PenAt H p l ns k r ∧ k ≤ 10000 ∧ 0 < many ∧ many < 2 ^ 200 ∧
  ∀ (d k' r' : Int) (H' : Hp), 0 ≤ d → d < many → k' ≤ k + 1 → But p H H' → PenAt H' p l ns k' r' → Q (.int d) H'
theorem cut63 {ns : List Int} (h : ns.length ≤ 63) : cutV (ns.map V.int) none (some 63) = ns.map V.int := by
  unfold cutV
  rw [HT.sIx_none, show (some (63 : Int)) = some ((63 : Nat) : Int) from rfl, HT.sIx_nat, List.drop_zero, List.length_map]
  exact List.take_of_length_le (by rw [List.length_map]; omega)
theorem dpInts {K : PySem.W.Frag} {H : Hp} : ∀ ns : List Int, DpAll K H (ns.map V.int) (ns.map PyData.int)
  | [] => .nil
  | n :: r => .cons (.int n) (dpInts r)
theorem canInts : ∀ ns : List Int, PyData.canLayAll0 (ns.map PyData.int) = true
  | [] => rfl
  | n :: r => by
    show (PyData.canLay0 (PyData.int n) && PyData.canLayAll0 (r.map PyData.int)) = true
    rw [canInts r]
    rfl
theorem depInts : ∀ ns : List Int, PyData.depthAll (ns.map PyData.int) = 0
  | [] => rfl
  | n :: r => by
    show max (PyData.depth (PyData.int n)) (PyData.depthAll (r.map PyData.int)) = 0
    rw [depInts r]
    rfl
theorem shInts {ns : List Int} : SeqAt.shaped (PyData.list (ns.map PyData.int)) = true := by
  unfold SeqAt.shaped
  rw [show PyData.canLay0 (PyData.list (ns.map PyData.int)) = true from canInts ns]
  refine decide_eq_true ?_
  show PyData.depthAll (ns.map PyData.int) + 1 ≤ 64
  rw [depInts ns]
  decide
theorem fm0 {i j : Int} (h : 0 < j) : 0 ≤ i.fmod j := by
  rw [Int.fmod_eq_emod_of_nonneg _ (Int.le_of_lt h)]
  exact Int.emod_nonneg _ (Int.ne_of_gt h)
theorem fm1 {i j : Int} (h : 0 < j) : i.fmod j < j := by
  rw [Int.fmod_eq_emod_of_nonneg _ (Int.le_of_lt h)]
  exact Int.emod_lt_of_pos _ h
section
variable {P : Program} {w : World} {K : PySem.W.Frag} {mg : Str → Option Value} {base : Heap}
theorem scPen : FnScope ["_law_script"] ["_law_script"] (defScope sPen) := ⟨rfl, rfl, rfl, by decide +kernel, rfl, by decide +kernel, by decide +kernel⟩
theorem ok_pen {f : Addr} {fd : FuncData} (F : Fun K "_law_pen" "_law_pen" sPen f fd) (T : Bl mg) : FnOk P w K mg base CX0 1 f fd ["_law_script"] (spPen K) := by
  refine F.ok scPen (fun vs H Q E h => ?_) (fun cdv A outer s H vs Q E hr h => ?_)
  · obtain ⟨a, ns, rfl, _⟩ := h
    rfl
  · obtain ⟨a, ns, rfl, hS, hl, k⟩ := h
    refine ⟨_, pss_one (ps_ret (pe_lst (pa_cons (pe_callTy call_list_of (by rfl) T.list (by decide +kernel) (pa_cons (pe_slice sl_list (pv 0) po_none (po_some pe_int)) pa_nil)) (pa_cons pe_int (pa_cons pe_int pa_nil))))), ?_⟩
    refine ⟨_, rfl, _, rfl, a, _, rfl, hS, fun c hc => ?_⟩
    refine ⟨c, _, rfl, .inl (SqL.of upd_same), fun l hl' => ?_⟩
    refine ⟨(by show 3 ≤ sizeLine; decide), fun p hp => ?_⟩
    rw [cut63 hl] at hl' hp ⊢
    have nlc : l ≠ c := fun e => by
      rw [e, upd_same] at hl'
      cases hl'
    have npl : p ≠ l := fun e => by
      rw [e, upd_same] at hp
      cases hp
    have npc : p ≠ c := fun e => by
      rw [upd_ne npl, e, upd_same] at hp
      cases hp
    rw [upd_ne nlc] at hl'
    rw [upd_ne npl, upd_ne npc] at hp
    refine k p l _ hp (fun b o e => ?_) ⟨upd_same, by rw [upd_ne npl.symm, upd_same], npl.symm, hl, by decide⟩
    rw [upd_ne (ne_of_none e hp), upd_ne (ne_of_none e hl'), upd_ne (ne_of_none e hc)]
    exact e
theorem scDraw : FnScope ["_law_pen_here", "_law_many", "_law_digit", "_law_at", "_law_cell", "_law_large", "_law_mixed"] ["_law_pen_here", "_law_many"] (defScope sDraw) := ⟨rfl, rfl, rfl, by decide +kernel, rfl, by decide +kernel, by decide +kernel⟩
theorem ok_draw {f : Addr} {fd : FuncData} (F : Fun K "_law_draw" "_law_draw" sDraw f fd) (T : Bl mg) : FnOk P w K mg base CX0 1 f fd ["_law_pen_here", "_law_many"] spDraw := by
  refine F.ok scDraw (fun vs H Q E h => ?_) (fun cdv A outer s H vs Q E hr h => ?_)
  · obtain ⟨p, l, ns, k, r, many, rfl, _⟩ := h
    rfl
  · obtain ⟨p, l, ns, k, r, many, rfl, hP, hk, hm0, hm1, q⟩ := h
    have nd := scDraw.nd
    refine ⟨_, (pss_cons
        (ps_if (pt_cmpR op_gt (pe_ix ix_list (pv 0) pe_int (fun _ _ => rfl)) pe_int (nomark _))
          (pss_cons
            (ps_set (i := 2) nd rfl (Or.inl rfl) (pe_op op_modN (pe_callTy call_int1 (by rfl) T.int (by decide +kernel) (pa_cons (pe_ix ix_list (pv 0) pe_int (fun _ _ => rfl)) pa_nil)) (pv 1)))
          (pss_cons
            (ps_asg (pe_op op_fdivW (pe_callTy call_int1 (by rfl) T.int (by decide +kernel) (pa_cons (pe_ix ix_list (pv 0) pe_int (fun _ _ => rfl)) pa_nil)) (pv 1)) (pg_sub (pv 0) pe_int set_list))
          (pss_one
            (ps_ret (pv 2)))))
          pss_nil)
      (pss_cons
        (ps_set (i := 3) nd rfl (Or.inl rfl) (pe_ix ix_list (pv 0) pe_int (fun _ _ => rfl)))
      (pss_cons
        (ps_asg (pe_op op_add (pv 3) pe_int) (pg_sub (pv 0) pe_int set_list))
      (pss_cons
        (ps_set (i := 4) nd rfl (Or.inl rfl) (pe_op op_add (pe_op op_mul pe_int (pv 3)) pe_int))
      (C8.pss_cut
        (ps_if (pt_cmpR (op_neD hr.units) (pe_ix ix_list (pv 0) pe_int (fun _ _ => rfl)) (pe_lst pa_nil) (nomark _))
          (pss_one
            (ps_set (i := 4) nd rfl (Or.inl rfl) (pe_ix ix_list (pe_ix ix_list (pv 0) pe_int (fun _ _ => rfl)) (pe_op op_modN (pe_callTy call_int1 (by rfl) T.int (by decide +kernel) (pa_cons (pv 3) pa_nil)) (pe_callB call_len_seq (by rfl) T.len PySem.boot_len (pa_cons (pe_ix ix_list (pv 0) pe_int (fun _ _ => rfl)) pa_nil))) (fun _ _ => rfl))))
          pss_nil)
      (pss_cons
        (ps_if (PW.pt (pw_and (pt_cmpR op_lt (pv 3) (pe_callB call_len_seq (by rfl) T.len PySem.boot_len (pa_cons (pe_ix ix_list (pv 0) pe_int (fun _ _ => rfl)) pa_nil)) (nomark _)) (pw_and1 (pt_cmpR op_ge (pe_callB call_abs (by rfl) T.abs (by decide +kernel) (pa_cons (pv 4) pa_nil)) (pe_op op_pow pe_int pe_int) (nomark _)))))
          (pss_cons
            (ps_set (i := 5) nd rfl (Or.inl rfl) (pe_op op_add (pe_op op_mul pe_int (pe_callB call_abs (by rfl) T.abs (by decide +kernel) (pa_cons (pv 4) pa_nil))) (pe_callTy call_int1 (by rfl) T.int (by decide +kernel) (pa_cons (pe_cmpR op_lt (pv 4) pe_int (nomark _)) pa_nil))))
          (pss_cons
            (ps_asg (pe_op op_fdivW (pv 5) (pv 1)) (pg_sub (pv 0) pe_int set_list))
          (pss_one
            (ps_ret (pe_op op_modN (pe_callTy call_int1 (by rfl) T.int (by decide +kernel) (pa_cons (pv 5) pa_nil)) (pv 1))))))
          pss_nil)
      (pss_cons
        (ps_set (i := 6) nd rfl (Or.inl rfl) (pe_op op_modN (pe_callTy call_int1 (by rfl) T.int (by decide +kernel) (pa_cons (pe_op op_pow (pe_op op_add (pe_op op_add (pe_op op_modN (pe_callTy call_int1 (by rfl) T.int (by decide +kernel) (pa_cons (pv 4) pa_nil)) pe_int) (pe_op op_mul pe_int (pv 3))) pe_int) pe_int) pa_nil)) pe_int))
      (pss_cons
        (ps_set (i := 6) nd rfl (Or.inl rfl) (pe_op op_modN (pe_callTy call_int1 (by rfl) T.int (by decide +kernel) (pa_cons (pe_op op_pow (pe_op op_add (pe_op op_add (pe_op op_mul (pv 6) (pe_op op_add (pe_op op_mul pe_int (pv 3)) pe_int)) (pe_op op_mul (pe_op op_mul pe_int (pv 3)) (pv 3))) pe_int) pe_int) pa_nil)) pe_int))
      (pss_one
        (ps_ret (pe_op op_modN (pe_callTy call_int1 (by rfl) T.int (by decide +kernel) (pa_cons (pe_op op_fdiv (pv 6) pe_int) pa_nil)) (pv 1)))))))))))), ?_⟩
    have ix : ∀ {σ : L2.St} {H : Hp} {k r : Int} {i : Int} {v : V}, H p = some (.lst [.ref l, .int k, .int r]) → σ[0]? = some (some (.ref p)) → atI [V.ref l, .int k, .int r] i = some v → Val (tOp (rIxL K) (tVar 0) (tC (.int i))) σ H v :=
      fun h0 h h1 => val_op (val_var h) val_c fun Q q => ⟨p, _, _, _, rfl, rfl, SqL.of h0, h1, q⟩
    have int1 : ∀ {te : TE} {σ : L2.St} {H : Hp} {i : Int}, Val te σ H (.int i) → Val (tCB (fun xs H Q => (∃ i, xs = [.int i] ∧ Q (.int i) H) ∨ ∃ k, xs = [.bl k] ∧ Q (.int (if k then 1 else 0)) H) (tCons te tNil)) σ H (.int i) :=
      fun h Q q => h _ (.inl ⟨_, rfl, q⟩)
    show tSeq _ _ _ [some (V.ref p), some (V.int many), none, none, none, none, none] H
    refine st_seq ?_
    by_cases c1 : 0 < r
    · refine st_yes (ans_gt (ix hP.pen rfl rfl) (decide_eq_true c1)) ?_
      refine st_seq (st_set (val_op (int1 (ix hP.pen rfl rfl)) (val_var rfl) fun Q q => ⟨_, _, rfl, rfl, by omega, q⟩) ?_)
      refine st_seq ?_
      refine val_op (int1 (ix hP.pen rfl rfl)) (val_var rfl) (fun Q q => ⟨_, _, rfl, rfl, wide_div hm0 (b := 200) (by omega) (by decide) (by decide), q⟩) _ ?_
      refine ⟨_, rfl, _, _, _, _, rfl, rfl, hP.pen, rfl, ?_⟩
      refine st_ret (val_var rfl) ?_
      exact q _ _ _ _ (by rw [Int.fmod_eq_emod_of_nonneg _ (by omega)]; exact Int.emod_nonneg _ (by omega)) (by rw [Int.fmod_eq_emod_of_nonneg _ (by omega)]; exact Int.emod_lt_of_pos _ hm0) (by omega) But.put (hP.but But.put upd_same hP.k0)
    refine st_no (ans_gt (ix hP.pen rfl rfl) (decide_eq_false c1)) ?_
    refine st_seq (st_set (ix hP.pen rfl rfl) ?_)
    refine st_seq ?_
    refine val_op (val_var rfl) val_c (fun Q q => ⟨_, _, rfl, rfl, q⟩) _ ?_
    refine ⟨_, rfl, _, _, _, _, rfl, rfl, hP.pen, rfl, ?_⟩
    have hP1 : PenAt (upd H p (.lst [.ref l, .int (k + 1), .int r])) p l ns (k + 1) r := hP.but But.put upd_same (by have := hP.k0; omega)
    have b1 : But p H (upd H p (.lst [.ref l, .int (k + 1), .int r])) := But.put
    show tSeq _ _ _ _ (upd H p (.lst [.ref l, .int (k + 1), .int r]))
    generalize upd H p (.lst [.ref l, .int (k + 1), .int r]) = H1 at hP1 b1 ⊢
    refine st_seq (st_set (val_op (val_op val_c (val_var rfl) fun Q q => ⟨_, _, rfl, rfl, .inl (by decide), q⟩) val_c fun Q q => ⟨_, _, rfl, rfl, q⟩) ?_)
    refine ⟨fun σ H' => ∃ c : Int, σ = [some (V.ref p), some (V.int many), none, some (V.int k), some (V.int c), none, none] ∧ But p H H' ∧ PenAt H' p l ns (k + 1) r, ?_, ?_⟩
    · refine ix hP1.pen rfl rfl _ ?_
      refine ⟨(by show 0 ≤ sizeLine; decide), fun z hz => ?_⟩
      have b2 : But p H (upd H1 z (.lst [])) := b1.trans (But.new hz)
      have nzp : p ≠ z := ne_of_none hP1.pen hz
      have hP2 : PenAt (upd H1 z (.lst [])) p l ns (k + 1) r := hP1.but (But.new hz) (by rw [upd_ne nzp]; exact hP1.pen) hP1.k0
      refine ⟨_, _, .lst (SqL.of hP2.lst) (dpInts ns), .lst (SqL.of upd_same) .nil, shInts, by decide, _, rfl, ?_⟩
      cases ns with
      | nil =>
        refine iteF ?_
        exact ⟨_, rfl, b2, hP2⟩
      | cons n0 nr =>
        refine iteT ?_
        have hpos : (0 : Int) < (((n0 :: nr).map V.int).length : Int) := by rw [List.length_map, List.length_cons]; omega
        obtain ⟨j, hj, e⟩ : ∃ j : Nat, j < (n0 :: nr).length ∧ k.fmod (((n0 :: nr).map V.int).length : Int) = (j : Int) := by
          refine ⟨(k.fmod (((n0 :: nr).map V.int).length : Int)).toNat, ?_, ?_⟩
          · rw [Int.fmod_eq_emod_of_nonneg _ (Int.le_of_lt hpos)]
            have h1 := Int.emod_lt_of_pos k hpos
            have h2 := Int.emod_nonneg k (Int.ne_of_gt hpos)
            rw [List.length_map] at h1 h2 ⊢
            omega
          · rw [Int.fmod_eq_emod_of_nonneg _ (Int.le_of_lt hpos)]
            have h2 := Int.emod_nonneg k (Int.ne_of_gt hpos)
            omega
        refine st_set (val_op (ix hP2.pen rfl rfl) (val_op (int1 (val_var rfl)) (fun Q q => ix hP2.pen rfl rfl _ ⟨l, _, rfl, .inl (SqL.of hP2.lst), q⟩) fun Q q => ⟨_, _, rfl, rfl, Int.ne_of_gt hpos, q⟩) fun Q q => ⟨l, _, _, _, rfl, rfl, SqL.of hP2.lst, by rw [e]; exact atI_nat (by rw [List.getElem?_map, List.getElem?_eq_getElem hj]; rfl), q⟩) ?_
        exact ⟨_, rfl, b2, hP2⟩
    · rintro σ H' ⟨c, rfl, b2, hP2⟩
      have hk0 := hP.k0
      have hA : Ans (tTest (tOp (rI0 fun i j => V.bl (decide (i < j))) (tVar 3) (tCB (fun xs H Q => ∃ p ys, xs = [V.ref p] ∧ (SqL K H p ys ∨ SqT K H p ys) ∧ Q (V.int ↑ys.length) H) (tCons (tOp (rIxL K) (tVar 0) (tC (.int 0))) tNil))))
          [some (V.ref p), some (V.int many), none, some (V.int k), some (V.int c), none, none] H' (decide (k < ((ns.map V.int).length : Int))) :=
        ans_cmp (val_var rfl) (fun Q q => ix hP2.pen rfl rfl _ ⟨l, _, rfl, .inl (SqL.of hP2.lst), q⟩) fun Q q => ⟨_, _, rfl, rfl, q⟩
      have hB : Ans (tTest (tOp (rI0 fun i j => V.bl (decide (j ≤ i))) (tCB (fun xs H Q => ∃ i, xs = [V.int i] ∧ Q (V.int (if i < 0 then -i else i)) H) (tCons (tVar 4) tNil)) (tOp (rI CPow fun i j => V.int (i ^ j.toNat)) (tC (V.int 10)) (tC (V.int 18)))))
          [some (V.ref p), some (V.int many), none, some (V.int k), some (V.int c), none, none] H' (decide ((10 : Int) ^ (18 : Int).toNat ≤ if c < 0 then -c else c)) :=
        ans_cmp (fun Q q => val_var rfl _ ⟨c, rfl, q⟩) (val_op val_c val_c fun Q q => ⟨_, _, rfl, rfl, ⟨by decide, by decide, by decide⟩, q⟩) fun Q q => ⟨_, _, rfl, rfl, q⟩
      refine st_seq ?_
      cases e : (decide (k < ((ns.map V.int).length : Int)) && decide ((10 : Int) ^ (18 : Int).toNat ≤ if c < 0 then -c else c)) with
      | true =>
        refine st_yes ((ans_and2 hA hB).to e) ?_
        refine st_seq (st_set (val_op (val_op val_c (fun Q q => val_var rfl _ ⟨c, rfl, q⟩) fun Q q => ⟨_, _, rfl, rfl, .inl (by decide), q⟩) (fun Q q => val_op (val_var rfl) val_c (fun Q q => ⟨_, _, rfl, rfl, q⟩) _ (.inr ⟨_, rfl, q⟩)) fun Q q => ⟨_, _, rfl, rfl, q⟩) ?_)
        refine st_seq ?_
        refine val_op (val_var rfl) (val_var rfl) (fun Q q => ⟨_, _, rfl, rfl, wide_div hm0 (b := 200) (by omega) (by decide) (by decide), q⟩) _ ?_
        refine ⟨_, rfl, _, _, _, _, rfl, rfl, hP2.pen, rfl, ?_⟩
        refine st_ret (val_op (int1 (val_var rfl)) (val_var rfl) fun Q q => ⟨_, _, rfl, rfl, by omega, q⟩) ?_
        exact q _ _ _ _ (fm0 hm0) (fm1 hm0) (Int.le_refl _) (b2.trans But.put) (hP2.but But.put upd_same hP2.k0)
      | false =>
        refine st_no ((ans_and2 hA hB).to e) ?_
        have f0 := fm0 (i := c) (j := 2147483549) (by decide)
        have f1 := fm1 (i := c) (j := 2147483549) (by decide)
        refine st_seq (st_set (val_op (int1 (val_op (val_op (val_op (val_op (int1 (val_var rfl)) val_c fun Q q => ⟨_, _, rfl, rfl, by show (2147483549 : Int) ≠ 0; decide, q⟩) (val_op val_c (val_var rfl) fun Q q => ⟨_, _, rfl, rfl, .inl (by decide), q⟩) fun Q q => ⟨_, _, rfl, rfl, q⟩) val_c fun Q q => ⟨_, _, rfl, rfl, q⟩) val_c
          fun Q q => ⟨_, _, rfl, rfl, ⟨by decide, by decide, by omega⟩, q⟩)) val_c fun Q q => ⟨_, _, rfl, rfl, by show (2147483629 : Int) ≠ 0; decide, q⟩) ?_)
        have g0 := fm0 (i := (c.fmod 2147483549 + 40039 * k + 43) ^ (5 : Int).toNat) (j := 2147483629) (by decide)
        have g1 := fm1 (i := (c.fmod 2147483549 + 40039 * k + 43) ^ (5 : Int).toNat) (j := 2147483629) (by decide)
        show tSeq _ _ _ [some (V.ref p), some (V.int many), none, some (V.int k), some (V.int c), none, some (V.int (((c.fmod 2147483549 + 40039 * k + 43) ^ (5 : Int).toNat).fmod 2147483629))] H'
        generalize ((c.fmod 2147483549 + 40039 * k + 43) ^ (5 : Int).toNat).fmod 2147483629 = m at g0 g1 ⊢
        have p0 : 0 ≤ m * (2 * k + 29) := Int.mul_nonneg g0 (by omega)
        have p1 : m * (2 * k + 29) ≤ 2147483629 * 20029 := Int.mul_le_mul (by omega) (by omega) (by omega) (by decide)
        have p2 : 0 ≤ 50051 * k * k := Int.mul_nonneg (by omega) hk0
        have p3 : 50051 * k * k ≤ 50051 * 10000 * 10000 := Int.mul_le_mul (by omega) hk hk0 (by decide)
        refine st_seq (st_set (val_op (int1 (val_op (val_op (val_op (val_op (val_var rfl) (val_op (val_op val_c (val_var rfl) fun Q q => ⟨_, _, rfl, rfl, .inl (by decide), q⟩) val_c fun Q q => ⟨_, _, rfl, rfl, q⟩) fun Q q => ⟨_, _, rfl, rfl, .inl (by omega), q⟩)
          (val_op (val_op val_c (val_var rfl) fun Q q => ⟨_, _, rfl, rfl, .inl (by decide), q⟩) (val_var rfl) fun Q q => ⟨_, _, rfl, rfl, .inl (by omega), q⟩) fun Q q => ⟨_, _, rfl, rfl, q⟩) val_c fun Q q => ⟨_, _, rfl, rfl, q⟩) val_c
          fun Q q => ⟨_, _, rfl, rfl, ⟨by decide, by decide, by omega⟩, q⟩)) val_c fun Q q => ⟨_, _, rfl, rfl, by show (2147483587 : Int) ≠ 0; decide, q⟩) ?_)
        refine st_ret (val_op (int1 (val_op (val_var rfl) val_c fun Q q => ⟨_, _, rfl, rfl, ⟨by decide, by decide⟩, q⟩)) (val_var rfl) fun Q q => ⟨_, _, rfl, rfl, by omega, q⟩) ?_
        exact q _ _ _ _ (fm0 hm0) (fm1 hm0) (Int.le_refl _) b2 hP2
end
end B3
set_option maxRecDepth 100000
set_option maxHeartbeats 4000000
set_option exponentiation.threshold 10000
namespace B3
open PySem PySem.Spec PyProof.Rows L2 RX LP AX TX
abbrev sParts : Stmt := top 18
abbrev sNumber : Stmt := top 19
abbrev sBefore : Stmt := top 20
def PartR : Rel P2 := fun p x H => ∃ a, x = .ref a ∧ H a = some (.tup [.int p.1, .int p.2])
theorem firm_part : Firm PartR := ⟨fun p x H H' g ⟨a, e, h⟩ => ⟨a, e, g _ _ h⟩, fun p x H H' D acc hD b ⟨a, e, h⟩ => ⟨a, e, b _ _ (fun z => by rw [z, hD] at h; cases h) h⟩⟩
theorem PenAt.new {H : Hp} {p l z : Addr} {ns : List Int} {k r : Int} {o : HO} (P : PenAt H p l ns k r) (hz : H z = none) : PenAt (upd H z o) p l ns k r := P.but (But.new hz) (by rw [upd_ne (ne_of_none P.pen hz)]; exact P.pen) P.k0
theorem PenAt.grow {H H' : Hp} {p l : Addr} {ns : List Int} {k r : Int} (P : PenAt H p l ns k r) (g : Grow H H') : PenAt H' p l ns k r := ⟨g _ _ P.pen, g _ _ P.lst, P.ne, P.len, P.k0⟩
/-- what a def that draws hands back -/
def Drawn (p l : Addr) (ns : List Int) (k : Int) (n : Int) (H : Hp) (R : V → Hp → Prop) (Q : VK) : Prop := ∀ v k' r' H', k' ≤ k + n → But p H H' → PenAt H' p l ns k' r' → R v H' → Q v H'
def spParts : Sp := fun vs H Q _ => ∃ p l ns k r, vs = [.ref p] ∧ PenAt H p l ns k r ∧ k ≤ 9000 ∧ Drawn p l ns k 5 H (fun v H' => ∃ u, Nm u ∧ PartR u v H') Q
def spNumber (C : Addr) : Sp := fun vs H Q _ => ∃ p l ns k r y u, vs = [.ref p, y] ∧ PenAt H p l ns k r ∧ k ≤ 9000 ∧ PartR u y H ∧ Nm u ∧ Drawn p l ns k 2 H (fun v H' => NumR C (low u) v H') Q
def spBefore : Sp := fun vs H Q _ => ∃ x y p q, vs = [x, y] ∧ PartR p x H ∧ PartR q y H ∧ Nm p ∧ Nm q ∧ Q (.bl (bef p q)) H
theorem dec_int {a b : Int} : decide (V.int a = V.int b) = decide (a = b) := decide_eq_decide.mpr ⟨fun e => by cases e; rfl, fun e => by rw [e]⟩
section
variable {P : Program} {w : World} {K : PySem.W.Frag} {mg : Str → Option Value} {base : Heap} {C CI CQ f fD fI : Addr} {fd fdD fdI : FuncData}
abbrev psD : List Str := ["_law_pen_here", "_law_many"]
theorem scParts : FnScope ["_law_pen_here", "_law_top"] ["_law_pen_here"] (defScope sParts) := ⟨rfl, rfl, rfl, by decide +kernel, rfl, by decide +kernel, by decide +kernel⟩
theorem cases5 {d : Int} (h0 : 0 ≤ d) (h3 : d < 5) : d = 0 ∨ d = 1 ∨ d = 2 ∨ d = 3 ∨ d = 4 := by omega
theorem cases4 {d : Int} (h0 : 0 ≤ d) (h3 : d < 4) : d = 0 ∨ d = 1 ∨ d = 2 ∨ d = 3 := by omega
theorem ok_parts (F : Fun K "_law_parts" "_law_parts" sParts f fd) (B : Bl mg) (GD : FnOk P w K mg base CX0 1 fD fdD psD spDraw) (DD : At K mg "_law_draw" fD fdD psD) : FnOk P w K mg base CX0 2 f fd ["_law_pen_here"] spParts := by
  refine F.ok scParts (fun vs H Q E h => ?_) (fun cdv A outer s H vs Q E hr h => ?_)
  · obtain ⟨p, l, ns, k, r, rfl, _⟩ := h
    rfl
  · obtain ⟨p, l, ns, k, r, rfl, hP, hk, q⟩ := h
    have nd := scParts.nd
    refine ⟨_, pss_cons (ps_set (i := 1) nd rfl (Or.inl rfl) (pe_ix (r := rIxL K) ix_list (pe_lst (pa_cons (pe_op op_sub (pe_call GD (hr.mono (by decide)) (by rfl) DD.mg DD.kp DD.b .nil pass0 (pa_cons (pv 0) (pa_cons pe_int pa_nil))) pe_int)
        (pa_cons (pe_op op_sub (pe_call GD (hr.mono (by decide)) (by rfl) DD.mg DD.kp DD.b .nil pass0 (pa_cons (pv 0) (pa_cons pe_int pa_nil))) pe_int) pa_nil)))
        (pe_callTy call_int1 (by rfl) B.int (by decide +kernel) (pa_cons (pe_cmpR op_eq (pe_call GD (hr.mono (by decide)) (by rfl) DD.mg DD.kp DD.b .nil pass0 (pa_cons (pv 0) (pa_cons pe_int pa_nil))) pe_int (nomark _)) pa_nil)) (fun _ _ => rfl)))
      (pss_one (ps_ret (pe_tup (pa_cons (pv 1) (pa_cons (pe_ix (r := rIxL K) ix_list (pe_lst (pa_cons pe_int (pa_cons pe_int (pa_cons pe_int (pa_cons pe_int (pa_cons (pe_op op_add pe_int (pe_call GD (hr.mono (by decide)) (by rfl) DD.mg DD.kp DD.b .nil pass0 (pa_cons (pv 0) (pa_cons pe_int pa_nil)))) pa_nil))))))
        (pe_call GD (hr.mono (by decide)) (by rfl) DD.mg DD.kp DD.b .nil pass0 (pa_cons (pv 0) (pa_cons pe_int pa_nil))) (fun _ _ => rfl)) pa_nil))))), ?_⟩
    have fin : ∀ (u : Int) (k' r' : Int) (H' : Hp), u.natAbs ≤ 1000000 → k' ≤ k + 3 → But p H H' → PenAt H' p l ns k' r' →
        tRet (tTup (tCons (tVar 1) (tCons (tOp (rIxL K) (tLst (tCons (tC (.int 1)) (tCons (tC (.int 2)) (tCons (tC (.int 3)) (tCons (tC (.int 4)) (tCons (tOp (rI0 fun i j => V.int (i + j)) (tC (.int 1)) (tCall spDraw [] E0 (tCons (tVar 0) (tCons (tC (.int 1000)) tNil)))) tNil))))))
          (tCall spDraw [] E0 (tCons (tVar 0) (tCons (tC (.int 5)) tNil)))) tNil))) { nx := fun _ H' => Q .non H', rt := Q } [some (V.ref p), some (V.int u)] H' := by
      intro u k1 r1 H1 bu bk B1 P1
      refine ⟨_, rfl, _, rfl, p, l, ns, k1, r1, 1000, rfl, P1, by omega, by decide, by decide, fun d1 k2 r2 H2 a0 a1 ak B2 P2 => ?_⟩
      refine ⟨_, _, rfl, rfl, (by show 5 ≤ sizeLine; decide), fun z hz => ?_⟩
      refine ⟨_, rfl, p, l, ns, k2, r2, 5, rfl, P2.new hz, by omega, by decide, by decide, fun d4 k4 r4 H4 e0 e1 ek B4 P4 => ?_⟩
      have nz : z ≠ p := (ne_of_none P2.pen hz).symm
      have BB : But p H H4 := (B1.trans B2).trans ((But.new hz).trans B4)
      have last : ∀ d : Int, 0 < d → d.natAbs ≤ 1000 → ∀ t, H4 t = none → Q (.ref t) (upd H4 t (.tup [.int u, .int d])) := fun d d0 bd t ht =>
        q _ _ _ _ (by omega) (BB.trans (But.new ht)) (P4.new ht) ⟨(u, d), ⟨d0, bu, bd⟩, t, rfl, upd_same⟩
      have two : 2 ≤ sizeLine := by decide
      rcases cases5 e0 e1 with rfl | rfl | rfl | rfl | rfl
      · exact ⟨z, _, 0, _, rfl, rfl, SqL.of (B4 z _ nz upd_same), rfl, two, last 1 (by decide) (by decide)⟩
      · exact ⟨z, _, 1, _, rfl, rfl, SqL.of (B4 z _ nz upd_same), rfl, two, last 2 (by decide) (by decide)⟩
      · exact ⟨z, _, 2, _, rfl, rfl, SqL.of (B4 z _ nz upd_same), rfl, two, last 3 (by decide) (by decide)⟩
      · exact ⟨z, _, 3, _, rfl, rfl, SqL.of (B4 z _ nz upd_same), rfl, two, last 4 (by decide) (by decide)⟩
      · exact ⟨z, _, 4, _, rfl, rfl, SqL.of (B4 z _ nz upd_same), rfl, two, last (1 + d1) (by omega) (by omega)⟩
    refine ⟨_, rfl, p, l, ns, k, r, 7, rfl, hP, by omega, by decide, by decide, fun d1 k1 r1 H1 a0 a1 ak B1 P1 => ?_⟩
    refine ⟨_, _, rfl, rfl, _, rfl, p, l, ns, k1, r1, 1999999, rfl, P1, by omega, by decide, by decide, fun d2 k2 r2 H2 b0 b1 bk B2 P2 => ?_⟩
    refine ⟨_, _, rfl, rfl, (by show 2 ≤ sizeLine; decide), fun z hz => ?_⟩
    refine ⟨_, rfl, p, l, ns, k2, r2, 4, rfl, P2.new hz, by omega, by decide, by decide, fun d4 k4 r4 H4 e0 e1 ek B4 P4 => ?_⟩
    have nz : z ≠ p := (ne_of_none P2.pen hz).symm
    have BB : But p H H4 := (B1.trans B2).trans ((But.new hz).trans B4)
    refine ⟨rfl, .inr ⟨_, rfl, ?_⟩⟩
    by_cases d0 : d4 = 0
    · refine ⟨z, _, 1, _, rfl, ?_, SqL.of (B4 z _ nz upd_same), rfl, fin _ k4 r4 H4 (by omega) (by omega) BB P4⟩
      rw [dec_int, decide_eq_true d0]
      rfl
    · refine ⟨z, _, 0, _, rfl, ?_, SqL.of (B4 z _ nz upd_same), rfl, fin _ k4 r4 H4 (by omega) (by omega) BB P4⟩
      rw [dec_int, decide_eq_false d0]
      rfl
theorem scBefore : FnScope ["_law_one", "_law_other"] ["_law_one", "_law_other"] (defScope sBefore) := ⟨rfl, rfl, rfl, by decide +kernel, rfl, by decide +kernel, by decide +kernel⟩
theorem v_ixT {σ : L2.St} {H : Hp} {i : Nat} {a : Addr} {xs : List V} {k : Int} {v : V} (h : σ[i]? = some (some (.ref a))) (e : H a = some (.tup xs)) (g : atI xs k = some v) : Val (tOp (rIxT K) (tVar i) (tC (.int k))) σ H v := fun Q q => ⟨_, h, a, xs, k, v, rfl, rfl, SqT.of e, g, q⟩
theorem ok_before (F : Fun K "_law_before" "_law_before" sBefore f fd) : FnOk P w K mg base CX0 1 f fd ["_law_one", "_law_other"] spBefore := by
  refine F.ok scBefore (fun vs H Q E h => ?_) (fun cdv A outer s H vs Q E hr h => ?_)
  · obtain ⟨x, y, p, q, rfl, _⟩ := h
    rfl
  · obtain ⟨x, y, p, q, rfl, ⟨a, rfl, ha⟩, ⟨b, rfl, hb⟩, np, nq, k⟩ := h
    refine ⟨_, pss_one (ps_ret (pe_cmpR op_lt (pe_op op_mulW (pe_ix (r := rIxT K) ix_tup (pv 0) pe_int (fun _ _ => rfl)) (pe_ix (r := rIxT K) ix_tup (pv 1) pe_int (fun _ _ => rfl))) (pe_op op_mulW (pe_ix (r := rIxT K) ix_tup (pv 1) pe_int (fun _ _ => rfl)) (pe_ix (r := rIxT K) ix_tup (pv 0) pe_int (fun _ _ => rfl))) (nomark _))), ?_⟩
    have wm : ∀ {i j : Int}, i.natAbs ≤ 1000000 → j.natAbs ≤ 1000 → CMulW i j := fun hi hj => wide_mul (a := 100) (b := 100) (Nat.lt_of_le_of_lt hi (by decide)) (Nat.lt_of_le_of_lt hj (by decide)) (by decide) (by decide) (by decide)
    refine val_op (val_op (v_ixT rfl ha (v := .int p.1) rfl) (v_ixT rfl hb (v := .int q.2) rfl) fun Q q' => ⟨_, _, rfl, rfl, wm np.bu nq.bd, q'⟩) (val_op (v_ixT rfl hb (v := .int q.1) rfl) (v_ixT rfl ha (v := .int p.2) rfl) fun Q q' => ⟨_, _, rfl, rfl, wm nq.bu np.bd, q'⟩) (fun Q q' => ⟨_, _, rfl, rfl, q'⟩) _ k
abbrev nsNumber : List Str := ["_law_pen_here", "_law_part", "_law_top", "_law_bottom", "_law_often"]
theorem scNumber : FnScope nsNumber ["_law_pen_here", "_law_part"] (defScope sNumber) := ⟨rfl, rfl, rfl, by decide +kernel, rfl, by decide +kernel, by decide +kernel⟩
theorem ok_number (F : Fun K "_law_number" "_law_number" sNumber f fd) (T : RTx K mg C CI CQ) (R : RMk P w K mg base C CI fI fdI) (GD : FnOk P w K mg base CX0 1 fD fdD psD spDraw) (DD : At K mg "_law_draw" fD fdD psD) : FnOk P w K mg base CX0 3 f fd ["_law_pen_here", "_law_part"] (spNumber C) := by
  refine F.ok scNumber (fun vs H Q E h => ?_) (fun cdv A outer s H vs Q E hr h => ?_)
  · obtain ⟨p, l, ns, k, r, y, u, rfl, _⟩ := h
    rfl
  · obtain ⟨p, l, ns, k, r, y, u, rfl, hP, hk, ⟨t, rfl, ht⟩, nu, q⟩ := h
    have nd := scNumber.nd
    refine ⟨_, pss_cons (ps_asg (pv 1) (pg_tup (by rfl) (pgs_cons (pg_name (i := 2) nd rfl (Or.inl rfl)) (pgs_cons (pg_name (i := 3) nd rfl (Or.inl rfl)) pgs_nil))))
      (pss_cons (ps_if (PW.pt (pw_and (pt_cmpR op_eq (pv 3) pe_int (nomark _)) (pw_and1 (pt_cmpR op_eq (pe_call GD (hr.mono (by decide)) (by rfl) DD.mg DD.kp DD.b .nil pass0 (pa_cons (pv 0) (pa_cons pe_int pa_nil))) pe_int (nomark _))))) (pss_one (ps_ret (pv 2))) pss_nil)
      (pss_cons (ps_set (i := 4) nd rfl (Or.inl rfl) (pe_ix (r := rIxL K) ix_list (pe_lst (pa_cons pe_int (pa_cons pe_int (pa_cons pe_int (pa_cons pe_int pa_nil))))) (pe_call GD (hr.mono (by decide)) (by rfl) DD.mg DD.kp DD.b .nil pass0 (pa_cons (pv 0) (pa_cons pe_int pa_nil))) (fun _ _ => rfl)))
      (pss_one (ps_ret (pe_make (E := E0) R.mkc R.ok (hr.mono (by decide)) (by rfl) T.gR R.b2 .nil passL (pa_cons (pe_op op_mulW (pv 2) (pv 4)) (pa_cons (pe_op op_mulW (pv 3) (pv 4)) pa_nil))))))), ?_⟩
    show tSeq _ _ _ [some (V.ref p), some (V.ref t), none, none, none] H
    refine sA_asgR ⟨_, rfl, t, _, rfl, SqT.of ht, rfl, _, _, rfl, _, _, rfl, rfl, ?_⟩
    have rest : ∀ (k1 r1 : Int) (H1 : Hp), k1 ≤ k + 1 → But p H H1 → PenAt H1 p l ns k1 r1 →
        tSeq (tAsg (tOp (rIxL K) (tLst (tCons (tC (.int 1)) (tCons (tC (.int 1)) (tCons (tC (.int 2)) (tCons (tC (.int 3)) tNil))))) (tCall spDraw [] E0 (tCons (tVar 0) (tCons (tC (.int 4)) tNil)))) (gName 4))
          (tRet (tMake C (spInit C CI) [] E0 (tCons (tOp (rI CMulW fun i j => .int (i * j)) (tVar 2) (tVar 4)) (tCons (tOp (rI CMulW fun i j => .int (i * j)) (tVar 3) (tVar 4)) tNil)))) { nx := fun _ H' => Q .non H', rt := Q } [some (V.ref p), some (V.ref t), some (V.int u.1), some (V.int u.2), none] H1 := by
      intro k1 r1 H1 hk1 B1 P1
      refine sA_setR ⟨(by show 4 ≤ sizeLine; decide), fun z hz => ?_⟩
      refine ⟨_, rfl, p, l, ns, k1, r1, 4, rfl, P1.new hz, by omega, by decide, by decide, fun d4 k4 r4 H4 e0 e1 ek B4 P4 => ?_⟩
      have nz : z ≠ p := (ne_of_none P1.pen hz).symm
      have BB : But p H H4 := B1.trans ((But.new hz).trans B4)
      have last : ∀ o : Int, 0 < o → o.natAbs ≤ 3 → tRet (tMake C (spInit C CI) [] E0 (tCons (tOp (rI CMulW fun i j => .int (i * j)) (tVar 2) (tVar 4)) (tCons (tOp (rI CMulW fun i j => .int (i * j)) (tVar 3) (tVar 4)) tNil))) { nx := fun _ H' => Q .non H', rt := Q } [some (V.ref p), some (V.ref t), some (V.int u.1), some (V.int u.2), some (V.int o)] H4 := by
        intro o o0 o3
        have wm : ∀ {i : Int}, i.natAbs ≤ 1000000 → CMulW i o := fun hi => wide_mul (a := 100) (b := 100) (Nat.lt_of_le_of_lt hi (by decide)) (Nat.lt_of_le_of_lt o3 (by decide)) (by decide) (by decide) (by decide)
        have bm : ∀ {i : Int}, i.natAbs ≤ 1000000 → (i * o).natAbs < 2 ^ 4000 := fun {i} hi => by
          rw [Int.natAbs_mul]
          exact Nat.lt_of_le_of_lt (Nat.mul_le_mul hi o3) (by decide)
        have b2 : u.2.natAbs ≤ 1000000 := Nat.le_trans nu.bd (by decide)
        have dn : u.2 * o ≠ 0 := Int.ne_of_gt (Int.mul_pos nu.d0 o0)
        have e := low_eq (u := u.1 * o) (d := u.2 * o) (u' := u.1) (d' := u.2) dn nu.ne (by ac_rfl)
        refine ⟨_, rfl, _, rfl, _, _, rfl, rfl, wm nu.bu, _, rfl, _, rfl, _, _, rfl, rfl, wm b2, fun a dx na nd' ne => ⟨a, dx, _, _, rfl, upd_same, fun _ => ⟨bm nu.bu, bm b2, rfl, ?_⟩, fun k => absurd k dn⟩⟩
        have g := grow_make (C := C) (o := .ins C dx (flds (tp (u.1 * o) (u.2 * o)) (bt (u.1 * o) (u.2 * o)))) na nd' ne
        refine q _ _ _ _ (by omega) (BB.trans (But.grow g)) (P4.grow g) (.inr ⟨a, dx, rfl, ?_⟩)
        rw [upd_same, e.1, e.2]
        rfl
      rcases cases4 e0 e1 with rfl | rfl | rfl | rfl
      · exact ⟨z, _, 0, _, rfl, rfl, SqL.of (B4 z _ nz upd_same), rfl, last 1 (by decide) (by decide)⟩
      · exact ⟨z, _, 1, _, rfl, rfl, SqL.of (B4 z _ nz upd_same), rfl, last 1 (by decide) (by decide)⟩
      · exact ⟨z, _, 2, _, rfl, rfl, SqL.of (B4 z _ nz upd_same), rfl, last 2 (by decide) (by decide)⟩
      · exact ⟨z, _, 3, _, rfl, rfl, SqL.of (B4 z _ nz upd_same), rfl, last 3 (by decide) (by decide)⟩
    by_cases h1 : u.2 = 1
    · refine ans_eq (b := true) (val_var rfl) val_c rfl (by rw [h1]; rfl) _ (iteT ?_)
      refine ⟨_, rfl, p, l, ns, k, r, 2, rfl, hP, by omega, by decide, by decide, fun d1 k1 r1 H1 a0 a1 ak B1 P1 => ⟨rfl, _, rfl, ?_⟩⟩
      by_cases h2 : d1 = 0
      · rw [dec_int, decide_eq_true h2]
        refine iteT (st_ret (val_var rfl) (q _ _ _ _ (by omega) B1 P1 (.inl ⟨?_, ?_⟩)))
        · show V.int u.1 = V.int (tp u.1 u.2)
          rw [h1, tp_one]
        · show bt u.1 u.2 = 1
          rw [h1, bt_one]
      · rw [dec_int, decide_eq_false h2]
        exact iteF (rest k1 r1 H1 ak B1 P1)
    · refine ans_eq (b := false) (val_var rfl) val_c rfl (by rw [dec_int]; exact decide_eq_false h1) _ (iteF ?_)
      exact iteF (rest k r H (by omega) But.refl hP)
end
end B3
set_option maxRecDepth 100000
set_option maxHeartbeats 4000000
set_option exponentiation.threshold 10000
namespace B3
open PySem PySem.Spec PyProof.Rows L2 RX LP AX TX
abbrev sSorted : Stmt := top 21
abbrev sAre : Stmt := top 22
section
variable {α : Type} {R : Rel α} {us vs : List α} {p : α} {σ : L2.St} {H : Hp} {ta tb : TE} {i : Nat} {x : V}
theorem evp_catR (F : Firm R) (n : us.length + vs.length ≤ 1000) (h : EvP ta σ H (LstR R us)) (t : EvP tb σ H (LstR R vs)) : EvP (tOp XO.rCatN ta tb) σ H (LstR R (us ++ vs)) := fun H1 g Q q =>
  h H1 g _ fun v H2 g2 pv => t H2 (g.tr g2) _ fun w H3 g3 pw => by
    obtain ⟨a, xs, rfl, ha, hA⟩ := stb_lstR F v H2 H3 g3 pv
    obtain ⟨b, ys, rfl, hb, hB⟩ := pw
    have e1 := hA.length
    have e2 := hB.length
    have big : 1000 ≤ sizeLine := by decide
    exact ⟨a, b, xs, ys, rfl, rfl, ha, hb, by omega, fun z hz _ => q _ _ ((g2.tr g3).tr (grow_new hz)) ⟨z, _, rfl, upd_same, F.all (grow_new hz) (hA.append hB)⟩⟩
theorem evp_one (F : Firm R) (h : σ[i]? = some (some x)) (r : R p x H) : EvP (tLst (tCons (tVar i) tNil)) σ H (LstR R [p]) := fun H1 g Q q =>
  ⟨x, h, (by show 1 ≤ sizeLine; decide), fun z hz => q _ _ (grow_new hz) ⟨z, _, rfl, upd_same, .cons (F.grow _ _ _ _ (g.tr (grow_new hz)) r) .nil⟩⟩
theorem evb_none {K : PySem.W.Frag} (h : EvP ta σ H (LstR R ([] : List α))) : EvB (tTest (tOp (rNeD K) ta (tLst tNil))) σ H false := fun H1 g Q q =>
  h H1 g _ fun v H2 g2 ⟨a, xs, ev, ha, hA⟩ => by
    subst ev
    cases hA
    refine ⟨(by show 0 ≤ sizeLine; decide), fun z hz => ?_⟩
    refine ⟨_, _, .lst (SqL.of (by rw [upd_ne (ne_of_none ha hz)]; exact ha)) .nil, .lst (SqL.of upd_same) .nil, by decide, by decide, _, rfl, ?_⟩
    exact q _ (g2.tr (grow_new hz))
end
def spSorted (K : PySem.W.Frag) : Sp := fun vs H Q _ => ∃ v us, vs = [v] ∧ SeqR K PartR us v H ∧ (∀ p ∈ us, Nm p) ∧ us.length ≤ 20 ∧ ∀ v H', Grow H H' → LstR PartR (srt us) v H' → Q v H'
def spAre (K : PySem.W.Frag) (C : Addr) : Sp := fun vs H Q _ => ∃ v y us, vs = [v, y] ∧ LstR (RatR C) (us.map low) v H ∧ SeqR K PartR us y H ∧ (∀ p ∈ us, Nm p) ∧ us.length ≤ 100 ∧ ∀ H', Grow H H' → Q (.bl true) H'
theorem srt_len1 : ∀ us : List P2, (srt us).length ≤ us.length := by
  refine snoc_ind (Nat.le_refl _) fun l x ih => ?_
  rw [srt_snoc]
  unfold stp
  have h : ∀ l : List P2, (l.filter (fun o => bef o x)).length + (l.filter (fun o => bef x o)).length ≤ l.length := by
    intro l
    induction l with
    | nil => exact Nat.le_refl _
    | cons a r ih =>
      have nb : ¬ (bef a x = true ∧ bef x a = true) := fun ⟨h1, h2⟩ => by
        unfold bef at h1 h2
        rw [decide_eq_true_eq] at h1 h2
        omega
      rw [List.filter_cons, List.filter_cons, List.length_cons]
      split <;> split <;> rename_i c d
      · exact absurd ⟨c, d⟩ nb
      · rw [List.length_cons]; omega
      · rw [List.length_cons]; omega
      · omega
  have := h (srt l)
  rw [List.length_append, List.length_append, List.length_append, List.length_singleton]
  omega
section
variable {P : Program} {w : World} {K : PySem.W.Frag} {mg : Str → Option Value} {base : Heap} {C CI CQ f fB fI fQ : Addr} {fd fdB fdI fdQ : FuncData}
abbrev psB : List Str := ["_law_one", "_law_other"]
abbrev nsSorted : List Str := ["_law_parts_here", "_law_found", "_law_part", "_law_ahead", "_law_behind", "_law_one"]
theorem scSorted : FnScope nsSorted ["_law_parts_here"] (defScope sSorted) := ⟨rfl, rfl, rfl, by decide +kernel, rfl, by decide +kernel, by decide +kernel⟩
theorem evb_bef {σ : L2.St} {H : Hp} {i j : Nat} {x y : V} {p q : P2} (hx : σ[i]? = some (some x)) (hy : σ[j]? = some (some y)) (rx : PartR p x H) (ry : PartR q y H) (np : Nm p) (nq : Nm q) : EvB (tB (tCall spBefore [] E0 (tCons (tVar i) (tCons (tVar j) tNil)))) σ H (bef p q) := fun H1 g Q k =>
  ⟨x, hx, y, hy, x, y, p, q, rfl, firm_part.grow _ _ _ _ g rx, firm_part.grow _ _ _ _ g ry, np, nq, _, rfl, k _ grow_rfl⟩
theorem ok_sorted (F : Fun K "_law_sorted" "_law_sorted" sSorted f fd) (GB : FnOk P w K mg base CX0 1 fB fdB psB spBefore) (DB : At K mg "_law_before" fB fdB psB) : FnOk P w K mg base CX0 2 f fd ["_law_parts_here"] (spSorted K) := by
  refine F.ok scSorted (fun vs H Q E h => ?_) (fun cdv A outer s H vs Q E hr h => ?_)
  · obtain ⟨v, us, rfl, _⟩ := h
    rfl
  · obtain ⟨v, us, rfl, ⟨a, xs, rfl, hS, hA⟩, nm, hlen, q⟩ := h
    have nd := scSorted.nd
    refine ⟨_, pss_cons (ps_set (i := 1) nd rfl (Or.inl rfl) (pe_lst pa_nil))
      (pss_cons (ps_for PassesOwn.never rfl (pi_list (pv 0)) (pg_name (i := 2) nd rfl (Or.inr rfl))
        (pss_cons (ps_setLc (i := 3) (own := [("_law_one", 5)]) (g := gName 5) (tt := tB (tCall spBefore [] E0 (tCons (tVar 5) (tCons (tVar 2) tNil)))) (by rfl) nd rfl rfl (sw_true rfl rfl rfl (by decide +kernel)) (pi_list (pv 1)) (blkOk_by (own := [("_law_one", 5)]) (N := nsSorted) (sc := defScope sSorted) (by decide +kernel)) (fun _ _ _ _ _ => pg_name (i := 5) nd rfl (Or.inl rfl))
          (fun _ _ _ _ _ => pts_one (pt_val (pe_call GB (hr.mono (by decide)) (by rfl) DB.mg DB.kp DB.b .nil pass0 (pa_cons (pv 5) (pa_cons (pv 2) pa_nil))))) (fun _ _ _ _ _ => pv 5))
        (pss_cons (ps_setLc (i := 4) (own := [("_law_one", 5)]) (g := gName 5) (tt := tB (tCall spBefore [] E0 (tCons (tVar 2) (tCons (tVar 5) tNil)))) (by rfl) nd rfl rfl (sw_true rfl rfl rfl (by decide +kernel)) (pi_list (pv 1)) (blkOk_by (own := [("_law_one", 5)]) (N := nsSorted) (sc := defScope sSorted) (by decide +kernel)) (fun _ _ _ _ _ => pg_name (i := 5) nd rfl (Or.inl rfl))
          (fun _ _ _ _ _ => pts_one (pt_val (pe_call GB (hr.mono (by decide)) (by rfl) DB.mg DB.kp DB.b .nil pass0 (pa_cons (pv 2) (pa_cons (pv 5) pa_nil))))) (fun _ _ _ _ _ => pv 5))
        (pss_one (ps_set (i := 1) nd rfl (Or.inl rfl) (pe_op XO.op_catN (pe_op XO.op_catN (pv 3) (pe_lst (pa_cons (pv 2) pa_nil))) (pv 4)))))))
      (pss_one (ps_ret (pv 1)))), ?_⟩
    show tSeq _ _ _ [some (V.ref a), none, none, none, none, none] H
    refine sA_setR ⟨(by show 0 ≤ sizeLine; decide), fun z hz => ?_⟩
    have len := hA.length
    refine sq_forL (K := K) (xs := xs) (fun k σ' H' => ∃ fnd y2 y3 y4, σ' = [some (V.ref a), some fnd, y2, y3, y4, none] ∧ Grow H H' ∧ LstR PartR (srt (us.take k)) fnd H') rfl (hS.ext (grow_new hz)) ⟨_, _, _, _, rfl, grow_new hz, z, [], rfl, upd_same, .nil⟩ (fun k σ' H' _ ⟨_, _, _, _, _, g, _⟩ => hS.ext g) ?_ ?_
    · rintro k x σ' H1 e ⟨fnd, y2, y3, y4, rfl, g1, hF⟩ D' hD'
      obtain ⟨p, hp, hpm, rp⟩ := hA.get e
      have rp1 := firm_part.grow _ _ _ _ g1 rp
      have np := nm p hpm
      have nF : ∀ o ∈ srt (us.take k), Nm o := fun o ho => nm o (List.mem_of_mem_take (srt_mem _ o ho))
      have lF : (srt (us.take k)).length ≤ 20 := by
        have h1 := srt_len1 (us.take k)
        rw [List.length_take] at h1
        omega
      have stbS : Stb (SeqR K PartR (srt (us.take k))) := fun v H H' g ⟨a, xs, e, h, z⟩ => ⟨a, xs, e, h.ext g, firm_part.all g z⟩
      refine sq_set (P := LstR PartR ((srt (us.take k)).filter fun o => bef o p)) (evp_filter (K := K) (R1 := PartR) (j := 5) (tsrc := tVar 1) (σ := [some (V.ref a), some fnd, some x, y3, y4, none]) firm_part (evp_var rfl (seq_lst hF) stbS) (by omega) (by show 5 < 6; decide) fun o y H' ho g ry => ?_) fun v3 H2 g2 p3 => ?_
      · exact evb_bef rfl rfl ry (firm_part.grow _ _ _ _ g rp1) (nF o ho) np
      refine sq_set (P := LstR PartR ((srt (us.take k)).filter fun o => bef p o)) (evp_filter (K := K) (R1 := PartR) (j := 5) (tsrc := tVar 1) (σ := [some (V.ref a), some fnd, some x, some v3, y4, none]) firm_part (evp_var rfl (seq_lst (stb_lstR firm_part _ _ _ g2 hF)) stbS) (by omega) (by show 5 < 6; decide) fun o y H' ho g ry => ?_) fun v4 H3 g3 p4 => ?_
      · exact evb_bef rfl rfl (firm_part.grow _ _ _ _ (g2.tr g) rp1) ry np (nF o ho)
      have f1 := List.length_filter_le (fun o => bef o p) (srt (us.take k))
      have f2 := List.length_filter_le (fun o => bef p o) (srt (us.take k))
      refine st_setP (P := LstR PartR (srt (us.take (k + 1)))) (te := tOp XO.rCatN (tOp XO.rCatN (tVar 3) (tLst (tCons (tVar 2) tNil))) (tVar 4)) (σ := [some (V.ref a), some fnd, some x, some v3, some v4, none]) ?_ fun v5 H4 g4 p5 => hD' _ _ ⟨_, _, _, _, rfl, ((g1.tr g2).tr g3).tr g4, p5⟩
      rw [srt_take hp]
      refine evp_catR firm_part ?_ (evp_catR firm_part ?_ (evp_var rfl (stb_lstR firm_part _ _ _ g3 p3) (stb_lstR firm_part)) (evp_one firm_part rfl (firm_part.grow _ _ _ _ (g2.tr g3) rp1))) (evp_var rfl p4 (stb_lstR firm_part))
      · rw [List.length_append, List.length_singleton]; omega
      · rw [List.length_singleton]; omega
    · rintro σ' H1 ⟨fnd, y2, y3, y4, rfl, g1, hF⟩
      rw [← len, List.take_length] at hF
      exact st_ret (val_var rfl) (q _ _ g1 hF)
abbrev nsAre : List Str := ["_law_found", "_law_parts_here", "_law_due", "_law_one", "_law_part"]
theorem scAre : FnScope nsAre ["_law_found", "_law_parts_here"] (defScope sAre) := ⟨rfl, rfl, rfl, by decide +kernel, rfl, by decide +kernel, by decide +kernel⟩
/-- two fractions with the same fields -/
def SameR (C : Addr) : Addr → Addr → Hp → Prop := fun a b H => ∃ dx dy t s, H a = some (.ins C dx (flds t s)) ∧ H b = some (.ins C dy (flds t s))
theorem same_all {H : Hp} {us : List P2} {xs ys : List V} (h : All2 (fun p x => RatR C p x H) us xs) (h' : All2 (fun p x => RatR C p x H) us ys) : L2.Prs (DIns C (SameR C)) xs ys H := by
  induction h generalizing ys with
  | nil =>
    cases h'
    exact Prs.nil
  | cons r _ ih =>
    cases h' with
    | cons r' t =>
      obtain ⟨a, dx, rfl, ea⟩ := r
      obtain ⟨b, dy, rfl, eb⟩ := r'
      exact Prs.cons ⟨a, b, dx, dy, _, _, rfl, rfl, ea, eb, dx, dy, _, _, ea, eb⟩ (ih t)
theorem ok_are (F : Fun K "_law_are" "_law_are" sAre f fd) (T : RTx K mg C CI CQ) (B : Bl mg) (R : RMk P w K mg base C CI fI fdI)
    (GQ : FnOk P w K mg base CX0 1 fQ fdQ ["self", "other"] (spEq K C)) (OQ : Own K C fQ "__eq__") (bQ : Binds K fdQ ["self", "other"] []) : FnOk P w K mg base CX0 4 f fd ["_law_found", "_law_parts_here"] (spAre K C) := by
  refine F.ok scAre (fun vs H Q E h => ?_) (fun cdv A outer s H vs Q E hr h => ?_)
  · obtain ⟨v, y, us, rfl, _⟩ := h
    rfl
  · obtain ⟨v, y, us, rfl, ⟨a, xs, rfl, ha, hA⟩, hy, nm, hlen, q⟩ := h
    have nd := scAre.nd
    have GE : FnOk P w K mg base CX0 1 fQ fdQ ["self", "other"] (L2.spEq (SameR C)) := GQ.imp fun vs H Q E h => by
      obtain ⟨a, b, rfl, ⟨dx, dy, t, s, ea, eb⟩, k⟩ := h
      refine ⟨a, dx, t, s, .ref b, true, rfl, ea, T.kr eb, fun e => Bool.noConfusion e, fun _ => ⟨b, dy, t, s, rfl, eb, ?_⟩⟩
      rw [decide_eq_true rfl, decide_eq_true rfl]
      exact k H Ext.rfl'
    have mn : Mon (DIns C (SameR C)) := mon_ins fun a b H H' e ⟨dx, dy, t, s, ea, eb⟩ => ⟨dx, dy, t, s, e _ _ ea, e _ _ eb⟩
    refine ⟨_, pss_cons (ps_if (PW.pt (pw_or (pt_not (pt_val (pe_callB call_isi (by rfl) T.isi (by decide +kernel) (pa_cons (pv 0) (pa_cons (pe_bltn (v := .ty "list") (by rfl) B.list (by decide +kernel) rfl) pa_nil)))))
        (pw_or1 (pt_cmpR (op_neD hr.units) (pe_lc (own := [("_law_one", 3)]) (g := gName 3) (tt := tNot (tB (tCB (rIsi K) (tCons (tVar 3) (tCons (tC (.ref C)) tNil))))) (by rfl) nd (pi_list (pv 0)) (blkOk_by (own := [("_law_one", 3)]) (N := nsAre) (sc := defScope sAre) (by decide +kernel)) (fun _ _ _ _ _ => pg_name (i := 3) nd rfl (Or.inl rfl))
          (fun _ _ _ _ _ => pts_one (pt_not (pt_val (pe_callB call_isi (by rfl) T.isi (by decide +kernel) (pa_cons (pv 3) (pa_cons (pe_glob (v := .ref C) (by rfl) T.gR rfl) pa_nil)))))) (fun _ _ _ _ _ => pv 3)) (pe_lst pa_nil) (nomark _))))) (pss_one (ps_ret pe_bl)) pss_nil)
      (pss_cons (ps_setLc (i := 2) (te := tMake C (spInit C CI) [] E0 (tCons (tOp (rIxT K) (tVar 4) (tC (.int 0))) (tCons (tOp (rIxT K) (tVar 4) (tC (.int 1))) tNil))) (own := [("_law_part", 4)]) (g := gName 4) (tt := tYes) (by rfl) nd rfl rfl (sw_true rfl rfl rfl (by decide +kernel)) (pi_list (pv 1)) (blkOk_by (own := [("_law_part", 4)]) (N := nsAre) (sc := defScope sAre) (by decide +kernel)) (fun _ _ _ _ _ => pg_name (i := 4) nd rfl (Or.inl rfl)) (fun _ _ _ _ _ => pts_nil)
          (fun _ _ _ _ _ => pe_make R.mkc R.ok (hr.mono (by decide)) (by rfl) T.gR R.b2 .nil passL (pa_cons (pe_ix (r := rIxT K) ix_tup (pv 4) pe_int (fun _ _ => rfl)) (pa_cons (pe_ix (r := rIxT K) ix_tup (pv 4) pe_int (fun _ _ => rfl)) pa_nil))))
      (pss_one (ps_ret (pe_cmpR (op_eqG (rcG_list mn (eqG_ins (E := E0) GE OQ.at_ OQ.fn bQ pass0)) (hr.mono (by decide))) (pv 0) (pv 2) (nomark _))))), ?_⟩
    show tSeq _ _ _ [some (V.ref a), some y, none, none, none] H
    have lm : (us.map low).length ≤ 1000 := by rw [List.length_map]; omega
    have c1 : EvB (tNot (tB (tCB (rIsi K) (tCons (tVar 0) (tCons (tC (.ty "list")) tNil))))) [some (V.ref a), some y, none, none, none] H false := fun H1 g Q' q' =>
      (ans_not (ans_val (b := true) (val_isi (val_var rfl) (.base (.lst (g _ _ ha))) (kit_ty (by decide +kernel)) (.ty _)))) _ (q' H1 grow_rfl)
    have stb0 : Stb (SeqR K (RatR C) (us.map low)) := fun v H H' g ⟨a, xs, e, h, z⟩ => ⟨a, xs, e, h.ext g, firm_rat.all g z⟩
    have c2 := evb_none (K := K) ((evp_filter (K := K) (R1 := RatR C) (us := us.map low) (keep := fun _ => false) (c := tNot (tB (tCB (rIsi K) (tCons (tVar 3) (tCons (tC (.ref C)) tNil))))) (j := 3) (tsrc := tVar 0) (σ := [some (V.ref a), some y, none, none, none]) (H := H) firm_rat (evp_var rfl (seq_lst ⟨a, xs, rfl, ha, hA⟩) stb0) lm (by show 3 < 5; decide) fun o x H' ho g rx => fun H1 g1 Q' q' => by
      obtain ⟨b, dy, rfl, eb⟩ := firm_rat.grow _ _ _ _ g1 rx
      obtain ⟨t, ty, kr⟩ := T.kr eb
      exact (ans_not (ans_val (b := true) (val_isi (val_var rfl) ty kr (.own C)))) _ (q' H1 grow_rfl)).imp fun v H h => by
      rw [List.filter_eq_nil_iff.mpr (fun _ _ => Bool.false_ne_true)] at h
      exact h)
    refine sq_no (evb_or c1 c2) fun H1 g1 => ?_
    have stbP : Stb (SeqR K PartR us) := fun v H H' g ⟨a, xs, e, h, z⟩ => ⟨a, xs, e, h.ext g, firm_part.all g z⟩
    refine sq_set (P := LstR (RatR C) (us.map low)) (evp_map (K := K) (R1 := PartR) (R2 := RatR C) (f := low) (j := 4) (tsrc := tVar 1) (σ := [some (V.ref a), some y, none, none, none]) firm_part firm_rat (evp_var rfl (stbP _ _ _ g1 hy) stbP) (by omega) fun o x H' ho g rx => ?_) fun v2 H2 g2 p2 => ?_
    · obtain ⟨t, rfl, et⟩ := rx
      have no := nm o ho
      have i0 : EvP (tOp (rIxT K) (tVar 4) (tC (.int 0))) [some (V.ref a), some y, none, none, some (V.ref t)] H' (IsP (.int o.1)) := fun H1 g Q q => v_ixT rfl (g _ _ et) rfl _ (q _ _ grow_rfl rfl)
      have i1 : EvP (tOp (rIxT K) (tVar 4) (tC (.int 1))) [some (V.ref a), some y, none, none, some (V.ref t)] H' (IsP (.int o.2)) := fun H1 g Q q => v_ixT rfl (g _ _ et) rfl _ (q _ _ grow_rfl rfl)
      exact evp_mk i0 i1 no.ne (Nat.lt_of_le_of_lt no.bu (by decide)) (Nat.lt_of_le_of_lt no.bd (by decide))
    · obtain ⟨b, ys, rfl, hb, hB⟩ := p2
      refine ⟨_, rfl, _, rfl, ⟨a, b, xs, ys, rfl, rfl, g2 _ _ (g1 _ _ ha), hb, same_all (firm_rat.all (g1.tr g2) hA) hB⟩, fun H3 g3 => q _ ((g1.tr g2).tr g3)⟩
end
end B3
set_option maxRecDepth 100000
set_option maxHeartbeats 4000000
set_option exponentiation.threshold 10000
namespace RX
open PySem PySem.Spec PyProof.Rows L2 LP
section
variable {X : Cx} {CX : CXT} {k : Nat} {f : Addr} {fd : FuncData} {ps ks : List Str} {sp : Sp} {E : XK} {x : Str} {p pos : Pos} {kws : List Keyword} {tk : TA} {g : List Value → List Value → List Value} {gV : List V → List V → List V}
/-- f(k = v, ..) -/
def tCallK0 (sp : Sp) (gV : List V → List V → List V) (E : XK) (tk : TA) : TE := fun σ H Q => tk σ H fun zs H2 => sp (gV [] zs) H2 Q E
theorem pe_callK0 (F : FnOk X.prog X.w X.K X.mg X.base CX k f fd ps sp) (hr : Room k X.A) (hg : Gl X x) (hm : X.mg x = some (.ref f)) (hk : PySem.W.keepIn X.K (.ref f) = true) (hb : KBinds X.K fd ps ks g gV) (hx : Passes CX X E)
    (hkw : PK X kws tk) (hall : (backToKw pos (keywordEach kws X.env)).all (·.1.isSome) = true := by rfl) (hks : (backToKw pos (keywordEach kws X.env)).filterMap (·.1) = ks := by rfl)
    (hdb : (x == ("__debug__" : Str)) = false := by decide)
    (hpl : ((backTo pos (starEach [] X.env)).any (·.1) || (backToKw pos (keywordEach kws X.env)).any (·.1.isNone)) = false := by rfl) :
    PE X (.Call (.Name x p) [] kws pos) (tCallK0 sp gV E tk) := by
  refine ⟨fun pins s σ H Q I h => ?_⟩
  refine wpAny_Call_Name_kw (ld_glob I hg hm ?_ hdb)
  refine PySem.W.callWith_KW0 (h₀ := X.base) I.ok.mod.kin hk hall ?_ hpl
  refine thn (hkw.run pos pins s σ H _ I h) fun ws s2 ⟨zs, H2, I2, rz, q2⟩ => ⟨I2.kIn, ?_⟩
  rw [hks]
  exact run_fnk (us := []) (vs := []) F hr hb hx I2 .nil rz q2
end
open Builtin in
theorem from_len : ∀ (ts : List Str) (k : Nat) (acc : Str), (textFrom k acc ts).length ≤ acc.length + piled ts
  | [], _, acc => Nat.le_add_right acc.length _
  | t :: r, k, acc => by
    have h := from_len r (k + 1) (acc ++ (if k > 0 then ", " else "" : String) ++ t)
    have sep : (Str.ofString (if k > 0 then ", " else "" : String)).length ≤ 2 := by split <;> decide
    rw [strLen_append, strLen_append] at h
    rw [piled_cons]
    exact Nat.le_trans h (by omega)
theorem list_len (ts : List Str) : (listText ts).length ≤ piled ts + 2 := by
  have h := from_len ts 0 "["
  have one : (Str.ofString "[").length = 1 := by decide
  have e : (listText ts).length = (textFrom 0 "[" ts).length + 1 := strLen_append _ _
  omega
theorem piled_le : ∀ {ts : List Str} {n : Nat}, (∀ t ∈ ts, t.length ≤ n) → piled ts ≤ ts.length * (n + 2)
  | [], n, _ => by rw [piled_nil]; exact Nat.zero_le _
  | t :: r, n, h => by
    have h1 := h t List.mem_cons_self
    have h2 := piled_le (ts := r) (n := n) fun t ht => h t (List.mem_cons_of_mem _ ht)
    rw [piled_cons, List.length_cons, Nat.add_mul]
    omega
end RX
namespace B3
open PySem PySem.Spec PyProof.Rows L2 RX LP AX SX TX
/-- texts of numbers -/
def TxR (C : Addr) : Addr → Str → Hp → Prop := fun a t H => ∃ dx u d, H a = some (.ins C dx (flds u d)) ∧ u.natAbs < 2 ^ 1900 ∧ d.natAbs < 2 ^ 1900 ∧ t = S (reprL u d)
def ShwN (C : Addr) : Shw := fun x t H => DInt x t H ∨ DTx C (TxR C) x t H
theorem shw_mon {C : Addr} : ∀ x t H H', Ext H H' → ShwN C x t H → ShwN C x t H' := fun x t H H' g h => h.elim .inl fun ⟨a, dx, fs, e, ea, dx', u, d, eb, z⟩ => .inr ⟨a, dx, fs, e, g _ _ ea, dx', u, d, g _ _ eb, z⟩
theorem rpG_num {X : Cx} {C f : Addr} {fd : FuncData} (GP : FnOk X.prog X.w X.K X.mg X.base CX0 1 f fd ["self"] (spTxt C reprL)) (OP : Own X.K C f "__repr__") (bP : Binds X.K fd ["self"] []) : RpG X 1 (ShwN C) :=
  rpG_int.or (rpG_ins (E := E0) (GP.imp fun vs H Q E h => by
    obtain ⟨a, t, rfl, ⟨dx, u, d, ea, s1, s2, rfl⟩, q⟩ := h
    exact ⟨a, dx, u, d, rfl, ea, s1, s2, q⟩) OP bP pass0)
theorem intL_8 {i : Int} (h : i.natAbs ≤ 1000000) : (intL i).length ≤ 8 := by
  have l := TL.numL_len (n := i.natAbs) (k := 7) (by decide) (by omega)
  unfold intL
  split
  · rw [List.length_cons]; omega
  · omega
theorem num_txt {C : Addr} {p : P2} {x : V} {H : Hp} (h : NumR C p x H) (l : Lw p) : ∃ t, ShwN C x t H ∧ t.length ≤ 40 := by
  have b1 : p.1.natAbs < 2 ^ 1900 := Nat.lt_of_le_of_lt l.bu (by decide)
  have b2 : p.2.natAbs < 2 ^ 1900 := Nat.lt_of_le_of_lt l.bd (by decide)
  have l1 := intL_8 l.bu
  have l2 := intL_8 (i := p.2) (Nat.le_trans l.bd (by decide))
  rcases h with ⟨rfl, _⟩ | ⟨a, dx, rfl, ea⟩
  · refine ⟨_, .inl ⟨p.1, rfl, log_of b1, rfl⟩, ?_⟩
    rw [int_txt, S_len]
    omega
  · refine ⟨_, .inr ⟨a, dx, _, rfl, ea, dx, p.1, p.2, ea, b1, b2, rfl⟩, ?_⟩
    rw [S_len]
    unfold reprL
    simp only [List.length_append, List.length_cons, List.length_nil]
    omega
theorem nums_txt {C : Addr} {H : Hp} {ps : List P2} {xs : List V} (h : All2 (fun p x => NumR C p x H) ps xs) (l : ∀ p ∈ ps, Lw p) : ∃ ts : List Str, ts.length = xs.length ∧ (∀ (i : Nat) x, xs[i]? = some x → ∃ t, ts[i]? = some t ∧ ShwN C x t H) ∧ ∀ t ∈ ts, t.length ≤ 40 := by
  induction h with
  | nil => exact ⟨[], rfl, fun i x e => by simp at e, fun t ht => by cases ht⟩
  | cons r _ ih =>
    obtain ⟨ts, h1, h2, h3⟩ := ih fun p hp => l p (List.mem_cons_of_mem _ hp)
    obtain ⟨t, s1, s2⟩ := num_txt r (l _ List.mem_cons_self)
    refine ⟨t :: ts, by rw [List.length_cons, List.length_cons, h1], fun i x e => ?_, fun t' ht' => ?_⟩
    · cases i with
      | zero =>
        simp at e
        subst e
        exact ⟨t, rfl, s1⟩
      | succ i =>
        obtain ⟨t', a, b⟩ := h2 i x (by simpa using e)
        exact ⟨t', by simpa using a, b⟩
    · rcases List.mem_cons.mp ht' with z | z
      · rw [z]; exact s2
      · exact h3 t' z
section
variable {K : PySem.W.Frag} {C : Addr} {σ : L2.St} {H : Hp} {ta tb : TE} {us qs : List P2} {p q : P2} {i : Nat}
theorem args_low (h : ∀ p ∈ us, Nm p) (n : us.length ≤ 20) : Args (us.map low) := ⟨fun p hp => by
  obtain ⟨o, ho, rfl⟩ := List.mem_map.mp hp
  have w := (h o ho).lw
  exact ⟨w.1, w.2, (h o ho).lw1⟩, by rw [List.length_map]; exact n⟩
theorem evp_ascG {tc : (Sp → TE)} (call : ∀ (sp : Sp) (σ : L2.St) (H : Hp) (Q : VK), (ta σ H fun v H1 => sp [v] H1 Q E0) → tc sp σ H Q)
    (nm : ∀ p ∈ us, Nm p) (m : ∀ p, p ∈ qs ↔ p ∈ us) (n : qs.length ≤ 20) (h : EvP ta σ H (SeqR K (NumR C) (qs.map low))) : EvP (tc (spAsc K C)) σ H (LstR (RatR C) ((srt us).map low)) := fun H1 g Q q =>
  call _ _ _ _ (h H1 g _ fun v H2 g2 hv => ⟨v, qs.map low, rfl, hv, args_low (fun p hp => nm p ((m p).mp hp)) n, fun r H3 ks g3 hk hr => q r H3 (g2.tr g3) (by
    have e := asc_due nm m hk.1 hk.2
    rw [← e]
    exact hr)⟩)
theorem evp_leastG {tc : (Sp → TE)} (call : ∀ (sp : Sp) (σ : L2.St) (H : Hp) (Q : VK), (ta σ H fun v H1 => sp [v] H1 Q E0) → tc sp σ H Q)
    (nm : ∀ p ∈ us, Nm p) (m : ∀ p, p ∈ qs ↔ p ∈ us) (n : qs.length ≤ 20) (ne : qs ≠ []) (h : EvP ta σ H (SeqR K (NumR C) (qs.map low))) {r : List P2} (e : srt us = p :: r) : EvP (tc (spLeast K C)) σ H (RatR C (low p)) := fun H1 g Q q =>
  call _ _ _ _ (h H1 g _ fun v H2 g2 hv => ⟨v, qs.map low, rfl, hv, args_low (fun p hp => nm p ((m p).mp hp)) n, fun z => ne (List.map_eq_nil_iff.mp z), fun w H3 k g3 hk hl hr => q w H3 (g2.tr g3) (by
    obtain ⟨p', r', e', el⟩ := least_due nm m hk hl
    rw [e] at e'
    cases e'
    rw [← el]
    exact hr)⟩)
theorem evp_greatG {tc : (Sp → TE)} (call : ∀ (sp : Sp) (σ : L2.St) (H : Hp) (Q : VK), (ta σ H fun v H1 => sp [v] H1 Q E0) → tc sp σ H Q)
    (nm : ∀ p ∈ us, Nm p) (m : ∀ p, p ∈ qs ↔ p ∈ us) (n : qs.length ≤ 20) (ne : qs ≠ []) (h : EvP ta σ H (SeqR K (NumR C) (qs.map low))) {r : List P2} (e : srt us = r ++ [p]) : EvP (tc (spGreat K C)) σ H (RatR C (low p)) := fun H1 g Q q =>
  call _ _ _ _ (h H1 g _ fun v H2 g2 hv => ⟨v, qs.map low, rfl, hv, args_low (fun p hp => nm p ((m p).mp hp)) n, fun z => ne (List.map_eq_nil_iff.mp z), fun w H3 k g3 hk hl hr => q w H3 (g2.tr g3) (by
    obtain ⟨p', r', e', el⟩ := greatest_due nm m hk hl
    rw [e] at e'
    have z := (List.append_inj' e' rfl).2
    cases z
    rw [← el]
    exact hr)⟩)
theorem evb_are (nm : ∀ p ∈ us, Nm p) (n : us.length ≤ 100) (ha : EvP ta σ H (LstR (RatR C) (us.map low))) (hb : EvP tb σ H (LstR PartR us)) : EvB (tB (tCall (spAre K C) [] E0 (tCons ta (tCons tb tNil)))) σ H true := fun H1 g Q q =>
  ha H1 g _ fun v H2 g2 hv => hb H2 (g.tr g2) _ fun y H3 g3 hy => ⟨v, y, us, rfl, stb_lstR firm_rat _ _ _ g3 hv, seq_lst hy, nm, n, fun H4 g4 => ⟨_, rfl, q H4 ((g2.tr g3).tr g4)⟩⟩
theorem evp_two {α : Type} {R : Rel α} {a b : α} (F : Firm R) (h1 : EvP ta σ H (R a)) (h2 : EvP tb σ H (R b)) : EvP (tLst (tCons ta (tCons tb tNil))) σ H (LstR R [a, b]) := fun H1 g Q q =>
  h1 H1 g _ fun v H2 g2 hv => h2 H2 (g.tr g2) _ fun y H3 g3 hy => ⟨(by show 2 ≤ sizeLine; decide), fun z hz => q _ _ ((g2.tr g3).tr (grow_new hz)) ⟨z, _, rfl, upd_same, .cons (F.grow _ _ _ _ (g3.tr (grow_new hz)) hv) (.cons (F.grow _ _ _ _ (grow_new hz) hy) .nil)⟩⟩
theorem evp_first {R : Rel P2} (F : Firm R) {r : List P2} (h : EvP ta σ H (LstR R (p :: r))) : EvP (tOp (rIxL K) ta (tC (.int 0))) σ H (R p) := fun H1 g Q q => h H1 g _ fun v H2 g2 ⟨a, xs, e, ha, hA⟩ => by
  subst e
  cases hA with
  | cons rp _ => exact ⟨a, _, 0, _, rfl, rfl, SqL.of ha, atI_nat (j := 0) rfl, q _ _ g2 rp⟩
theorem evp_last {R : Rel P2} (F : Firm R) {r : List P2} (h : EvP ta σ H (LstR R (r ++ [p]))) : EvP (tOp (rIxL K) ta (tUn (rU fun i => .int (-i)) (tC (.int 1)))) σ H (R p) := fun H1 g Q q => h H1 g _ fun v H2 g2 ⟨a, xs, e, ha, hA⟩ => by
  subst e
  obtain ⟨ys, zs, rfl, h1, h2⟩ := hA.split
  cases h2 with
  | cons rp t =>
    cases t
    exact ⟨1, rfl, a, _, -1, _, rfl, rfl, SqL.of ha, atI_last _ _, q _ _ g2 rp⟩
theorem evp_rev {R : Rel P2} (F : Firm R) (h : EvP ta σ H (LstR R us)) : EvP (tRevL K ta) σ H (LstR R us.reverse) := fun H1 g Q q => h H1 g _ fun v H2 g2 ⟨a, xs, e, ha, hA⟩ => by
  subst e
  exact ⟨a, xs, rfl, SqL.of ha, fun z hz => q _ _ (g2.tr (grow_new hz)) ⟨z, _, rfl, upd_same, F.all (grow_new hz) hA.rev⟩⟩
theorem evp_rep {ts : List Str} {a : Addr} {xs : List V} (h : σ[i]? = some (some (.ref a))) (ha : H a = some (.lst xs)) (ne : xs ≠ []) (len : ts.length = xs.length) (hT : ∀ (i : Nat) x, xs[i]? = some x → ∃ t, ts[i]? = some t ∧ ShwN C x t H) (sz : (listText ts).length ≤ sizeLine) :
    EvP (tCB (rReprL (ShwN C)) (tCons (tVar i) tNil)) σ H (IsP (.str (listText ts))) := fun H1 g Q q =>
  ⟨_, h, a, xs, ts, rfl, g _ _ ha, ne, len, fun i x e => (hT i x e).imp fun t z => ⟨z.1, shw_mon _ _ _ _ g z.2⟩, sz, fun H' g' => q _ _ g' rfl⟩
end
end B3
set_option maxRecDepth 100000
set_option maxHeartbeats 4000000
set_option exponentiation.threshold 10000
namespace B3
open PySem PySem.Spec PyProof.Rows L2 RX LP AX SX TX
section
variable {K : PySem.W.Frag} {C : Addr} {σ : L2.St} {H : Hp} {p l : Addr} {ns : List Int} {k r : Int} {j : Nat} {Q : VK}
theorem PenAt.d {D : Addr} (P : PenAt H p l ns k r) (h : H D = none) : D ≠ p ∧ D ≠ l := ⟨(ne_of_none P.pen h).symm, (ne_of_none P.lst h).symm⟩
theorem PenAt.put {H' : Hp} {D : Addr} {o : HO} (P : PenAt H' p l ns k r) (h1 : D ≠ p) (h2 : D ≠ l) : PenAt (upd H' D o) p l ns k r := ⟨by rw [upd_ne h1.symm]; exact P.pen, by rw [upd_ne h2.symm]; exact P.lst, P.ne, P.len, P.k0⟩
/-- [parts(pen) for .. in range(n)] -/
theorem lc_parts {n : Int} (P : PenAt H p l ns k r) (hn : 0 ≤ n) (hb : n ≤ 100) (hk : k ≤ 8000) (hv : ∀ x, ((wipe σ [j]).set j (some x))[1]? = some (some (.ref p)))
    (q : ∀ (D : Addr) (k' r' : Int) (H' : Hp) (us : List P2), k' ≤ k + 5 * n → But p H H' → PenAt H' p l ns k' r' → (us.length : Int) = n → (∀ u ∈ us, Nm u) → D ≠ p → LstR PartR us (.ref D) H' → Q (.ref D) H') :
    ∀ D, H D = none → ∃ W : Nat → Nat → Hp → Prop, (∃ m, W 0 m (upd H D (.lst []))) ∧ ∀ i m H, W i m H →
      ((Itr 0 n.toNat).stop i H ∧ Q (.ref D) H) ∨ ((Itr 0 n.toNat).go i H ∧ ∃ Nx : Hp → Prop, (∀ H', Nx H' → ∃ m', m' < m ∧ W (i + 1) m' H') ∧ ∀ x H', (Itr 0 n.toNat).yld i H x H' → gName j x (wipe σ [j]) H' fun σ2 H2 => wipe σ2 [j] = wipe σ [j] ∧ tYes σ2 H2 fun b H3 =>
        if b = true then (tCall spParts [] E0 (tCons (tVar 1) tNil)) σ2 H3 fun y H4 => ∃ acc, H4 D = some (.lst acc) ∧ acc.length < sizeLine ∧ Nx (upd H4 D (.lst (acc ++ [y]))) else Nx H3) := fun D hD => by
  obtain ⟨dp, dl⟩ := P.d hD
  have big : 1000 ≤ sizeLine := by decide
  refine lc_it (walk_range (lo := 0) (n := n.toNat)) (Qd := Q (.ref D)) (fun i H' => ∃ (k' r' : Int) (us : List P2) (xs : List V), us.length = i ∧ k' ≤ k + 5 * (i : Int) ∧ But p H H' ∧ PenAt H' p l ns k' r' ∧ (∀ u ∈ us, Nm u) ∧ H' D = some (.lst xs) ∧ All2 (fun p x => PartR p x H') us xs)
    ⟨k, r, [], [], rfl, by omega, But.new hD, P.put dp dl, (fun u hu => by cases hu), upd_same, .nil⟩ (fun _ _ _ _ => trivial) (fun i x H1 H2 hi pv y => ?_) (fun H1 pv => ?_)
  · obtain ⟨rfl, rfl⟩ := y
    obtain ⟨k', r', us, xs, hl, hk', B, P1, nm, hx, hA⟩ := pv
    refine ⟨wipe1, ?_⟩
    dsimp only [tYes]
    rw [if_pos rfl]
    refine ⟨_, hv _, p, l, ns, k', r', rfl, P1, by omega, fun v k2 r2 H4 hk2 B4 P4 ⟨u, nu, ru⟩ => ⟨xs, B4 D _ dp hx, ?_, k2, r2, us ++ [u], xs ++ [v], ?_, ?_, fun b o nb eb => ?_, P4.put dp dl, fun u' hu' => ?_, upd_same, ?_⟩⟩
    · rw [← hA.length]; omega
    · rw [List.length_append, List.length_singleton, hl]
    · omega
    · have nD : b ≠ D := ne_of_none eb hD
      rw [upd_ne nD]
      exact B4 b o nb (B b o nb eb)
    · rcases List.mem_append.mp hu' with z | z
      · exact nm u' z
      · rw [List.mem_singleton.mp z]; exact nu
    · exact firm_part.allB (B4 D _ dp hx) But.put ((firm_part.allB P1.pen B4 hA).append (.cons ru .nil))
  · obtain ⟨k', r', us, xs, hl, hk', B, P1, nm, hx, hA⟩ := pv
    exact q D k' r' H1 us (by omega) B P1 (by omega) nm dp ⟨D, xs, rfl, hx, hA⟩
/-- [number(pen, x) for x in parts] -/
theorem lc_numbers {us : List P2} {a : Addr} {xs : List V} (P : PenAt H p l ns k r) (hk : k ≤ 8000) (ha : H a = some (.lst xs)) (na : a ≠ p) (hA : All2 (fun p x => PartR p x H) us xs) (nm : ∀ u ∈ us, Nm u) (hb : us.length ≤ 100)
    (hv : ∀ x, ((wipe σ [j]).set j (some x))[1]? = some (some (.ref p))) (hj : ∀ x, ((wipe σ [j]).set j (some x))[j]? = some (some x))
    (q : ∀ (D : Addr) (k' r' : Int) (H' : Hp), k' ≤ k + 2 * (us.length : Int) → But p H H' → PenAt H' p l ns k' r' → LstR (NumR C) (us.map low) (.ref D) H' → Q (.ref D) H') :
    ∀ D, H D = none → ∃ W : Nat → Nat → Hp → Prop, (∃ m, W 0 m (upd H D (.lst []))) ∧ ∀ i m H, W i m H →
      ((Itl K a).stop i H ∧ Q (.ref D) H) ∨ ((Itl K a).go i H ∧ ∃ Nx : Hp → Prop, (∀ H', Nx H' → ∃ m', m' < m ∧ W (i + 1) m' H') ∧ ∀ x H', (Itl K a).yld i H x H' → gName j x (wipe σ [j]) H' fun σ2 H2 => wipe σ2 [j] = wipe σ [j] ∧ tYes σ2 H2 fun b H3 =>
        if b = true then (tCall (spNumber C) [] E0 (tCons (tVar 1) (tCons (tVar j) tNil))) σ2 H3 fun y H4 => ∃ acc, H4 D = some (.lst acc) ∧ acc.length < sizeLine ∧ Nx (upd H4 D (.lst (acc ++ [y]))) else Nx H3) := fun D hD => by
  obtain ⟨dp, dl⟩ := P.d hD
  have big : 1000 ≤ sizeLine := by decide
  have len := hA.length
  refine lc_list (K := K) (a := a) (xs := xs) (Qd := Q (.ref D)) (fun i H' => ∃ (k' r' : Int) (ys : List V), k' ≤ k + 2 * (i : Int) ∧ i ≤ us.length ∧ But p H H' ∧ PenAt H' p l ns k' r' ∧ H' D = some (.lst ys) ∧ All2 (fun p x => NumR C p x H') ((us.take i).map low) ys)
    ⟨k, r, [], by omega, by omega, But.new hD, P.put dp dl, upd_same, .nil⟩ (fun i H' _ ⟨_, _, _, _, _, B, _⟩ => SqL.of (B a _ na ha)) (fun i x H1 e pv => ?_) (fun H1 pv => ?_)
  · obtain ⟨k', r', ys, hk', hi, B, P1, hx, hN⟩ := pv
    obtain ⟨u, hu, hum, ru⟩ := hA.get e
    have hlt : i < us.length := (List.getElem?_eq_some_iff.mp hu).1
    refine ⟨wipe1, ?_⟩
    dsimp only [tYes]
    rw [if_pos rfl]
    refine ⟨_, hv _, _, hj _, p, l, ns, k', r', x, u, rfl, P1, by omega, firm_part.but _ _ _ _ _ _ P.pen B ru, nm u hum, fun v k2 r2 H4 hk2 B4 P4 rv => ⟨ys, B4 D _ dp hx, ?_, k2, r2, ys ++ [v], ?_, by omega, fun b o nb eb => ?_, P4.put dp dl, upd_same, ?_⟩⟩
    · have := hN.length
      rw [List.length_map, List.length_take] at this
      omega
    · omega
    · have nD : b ≠ D := ne_of_none eb hD
      rw [upd_ne nD]
      exact B4 b o nb (B b o nb eb)
    · rw [List.take_add_one, hu, List.map_append]
      exact firm_num.allB (B4 D _ dp hx) But.put ((firm_num.allB P1.pen B4 hN).append (.cons rv .nil))
  · obtain ⟨k', r', ys, hk', hi, B, P1, hx, hN⟩ := pv
    rw [← len, List.take_length] at hN
    exact q D k' r' H1 (by omega) B P1 ⟨D, ys, rfl, hx, hN⟩
end
theorem cut_take (xs : List V) (d : Int) : ∃ m, cutV xs none (some d) = xs.take m := by
  refine ⟨HT.sIx xs.length xs.length (some d), ?_⟩
  unfold cutV
  rw [HT.sIx_none, List.drop_zero, Nat.sub_zero]
end B3
set_option maxRecDepth 100000
set_option maxHeartbeats 8000000
set_option exponentiation.threshold 10000
namespace LP
open PySem PySem.Spec PyProof.Rows L2
theorem EvB.grow {c : TT} {σ : L2.St} {H H' : Hp} {b : Bool} (g : Grow H H') (h : EvB c σ H b) : EvB c σ H' b := fun H1 g1 Q q => h H1 (g.tr g1) Q q
theorem evp_nil {α : Type} {R : Rel α} {σ : L2.St} {H : Hp} : EvP (tLst tNil) σ H (LstR R []) := fun H1 g Q q => ⟨(by show 0 ≤ sizeLine; decide), fun z hz => q _ _ (grow_new hz) ⟨z, [], rfl, upd_same, .nil⟩⟩
end LP
namespace B3
open PySem PySem.Spec PyProof.Rows L2 RX LP AX SX TX
abbrev sLaw : Stmt := top 23
abbrev nsLaw : List Str := ["_law_script", "_law_pen_here", "_law_turn", "_law_parts_here", "_law_some", "_law_kept", "_law_due", "_law_at", "_law_part"]
theorem scLaw : FnScope nsLaw ["_law_script"] (defScope sLaw) := ⟨rfl, rfl, rfl, by decide +kernel, rfl, by decide +kernel, by decide +kernel⟩
def spLaw (K : PySem.W.Frag) : Sp := fun vs H Q _ => ∃ (a : Addr) (ns : List Int), vs = [.ref a] ∧ SqL K H a (ns.map V.int) ∧ ns.length ≤ 63 ∧ ∀ H', Q (.bl true) H'
/-- one value by its name -/
def g01 {α : Type} : List α → List α → List α
  | [], [b] => [b]
  | _, _ => []
theorem srt_ne {us : List P2} (h : us ≠ []) : srt us ≠ [] := by
  rw [← List.dropLast_concat_getLast h, srt_snoc]
  unfold stp
  intro e
  have := congrArg List.length e
  rw [List.length_append, List.length_append, List.length_singleton] at this
  simp at this
/-- a def of one parameter, numbers, at its name -/
structure NF (P : Program) (w : World) (K : PySem.W.Frag) (mg : Str → Option Value) (base : Heap) (x : Str) (sp : Sp) (f : Addr) (fd : FuncData) : Prop where
  ok : FnOk P w K mg base CX0 6 f fd ["numbers"] sp
  mg : mg x = some (.ref f)
  kp : PySem.W.keepIn K (.ref f) = true
  b : Binds K fd ["numbers"] []
  k : KBinds K fd ["numbers"] ["numbers"] g01 g01
section
variable {P : Program} {w : World} {K : PySem.W.Frag} {mg : Str → Option Value} {base : Heap} {C CI CQ : Addr}
theorem ok_law {f fP fE fD fA fN fS fR f1 f2 f3 : Addr} {fd fdP fdE fdD fdA fdN fdS fdR fd1 fd2 fd3 : FuncData} (F : Fun K "law" "law" sLaw f fd) (B : Bl mg)
    (GP : FnOk P w K mg base CX0 1 fP fdP ["self"] (spTxt C reprL)) (OP : Own K C fP "__repr__") (bP : Binds K fdP ["self"] [])
    (GE : FnOk P w K mg base CX0 1 fE fdE ["_law_script"] (spPen K)) (DE : At K mg "_law_pen" fE fdE ["_law_script"])
    (GD : FnOk P w K mg base CX0 1 fD fdD psD spDraw) (DD : At K mg "_law_draw" fD fdD psD)
    (GA : FnOk P w K mg base CX0 2 fA fdA ["_law_pen_here"] spParts) (DA : At K mg "_law_parts" fA fdA ["_law_pen_here"])
    (GN : FnOk P w K mg base CX0 3 fN fdN ["_law_pen_here", "_law_part"] (spNumber C)) (DN : At K mg "_law_number" fN fdN ["_law_pen_here", "_law_part"])
    (GS : FnOk P w K mg base CX0 2 fS fdS ["_law_parts_here"] (spSorted K)) (DS : At K mg "_law_sorted" fS fdS ["_law_parts_here"])
    (GR : FnOk P w K mg base CX0 4 fR fdR ["_law_found", "_law_parts_here"] (spAre K C)) (DR : At K mg "_law_are" fR fdR ["_law_found", "_law_parts_here"])
    (N1 : NF P w K mg base "ascending" (spAsc K C) f1 fd1) (N2 : NF P w K mg base "least" (spLeast K C) f2 fd2) (N3 : NF P w K mg base "greatest" (spGreat K C) f3 fd3) : FnG P w K mg base 7 f fd ["_law_script"] (spLaw K) := by
  refine fnG_of F scLaw (fun vs H Q E h => ?_) (fun cdv A outer s H vs Q E hr hg h => ?_)
  · obtain ⟨a, ns, rfl, _⟩ := h
    rfl
  · obtain ⟨a, ns, rfl, hS, hl, q⟩ := h
    have nd := scLaw.nd
    refine ⟨_, pss_cons (ps_set (i := 1) nd rfl (Or.inr rfl) (pe_call GE (hr.mono (by decide)) (by rfl) DE.mg DE.kp DE.b .nil pass0 (pa_cons (pv 0) pa_nil)))
      (pss_cons (ps_if (pt_cmpR (op_neD hr.units) (pe_call N1.ok hr (by rfl) N1.mg N1.kp N1.b .nil pass0 (pa_cons (pe_lst pa_nil) pa_nil)) (pe_lst pa_nil) (nomark _)) (pss_one (ps_ret pe_bl)) pss_nil)
      (pss_cons (ps_for PassesOwn.never rfl (pi_range1 (by rfl) B.range (pa_cons pe_int pa_nil)) (pg_name (i := 2) nd rfl (Or.inl rfl))
        (pss_cons (ps_setLc (i := 3) (own := [("_law_at", 7)]) (g := gName 7) (tt := tYes) (by rfl) nd rfl rfl (sw_true rfl rfl rfl (by decide +kernel)) (pi_range1 (by rfl) B.range (pa_cons (pe_op op_add pe_int (pe_call GD (hr.mono (by decide)) (by rfl) DD.mg DD.kp DD.b .nil pass0 (pa_cons (pv 1) (pa_cons pe_int pa_nil)))) pa_nil)) (blkOk_by (own := [("_law_at", 7)]) (N := nsLaw) (sc := defScope sLaw) (by decide +kernel)) (fun _ _ _ _ _ => pg_name (i := 7) nd rfl (Or.inl rfl)) (fun _ _ _ _ _ => pts_nil)
          (fun _ _ _ _ _ => pe_call GA (hr.mono (by decide)) (by rfl) DA.mg DA.kp DA.b .nil pass0 (pa_cons (pv 1) pa_nil)))
        (pss_cons (ps_set (i := 3) nd rfl (Or.inl rfl) (pe_op XO.op_catN (pv 3) (pe_slice sl_list (pv 3) po_none (po_some (pe_call GD (hr.mono (by decide)) (by rfl) DD.mg DD.kp DD.b .nil pass0 (pa_cons (pv 1) (pa_cons pe_int pa_nil)))))))
        (pss_cons (ps_setLc (i := 4) (own := [("_law_part", 8)]) (g := gName 8) (tt := tYes) (by rfl) nd rfl rfl (sw_true rfl rfl rfl (by decide +kernel)) (pi_list (pv 3)) (blkOk_by (own := [("_law_part", 8)]) (N := nsLaw) (sc := defScope sLaw) (by decide +kernel)) (fun _ _ _ _ _ => pg_name (i := 8) nd rfl (Or.inl rfl)) (fun _ _ _ _ _ => pts_nil)
          (fun _ _ _ _ _ => pe_call GN (hr.mono (by decide)) (by rfl) DN.mg DN.kp DN.b .nil pass0 (pa_cons (pv 1) (pa_cons (pv 8) pa_nil))))
        (pss_cons (ps_set (i := 5) nd rfl (Or.inl rfl) (pe_callB (call_reprL (D := ShwN C) hg (hr.mono (by decide)) (rpG_num GP OP bP) shw_mon) (by rfl) B.repr (by decide +kernel) (pa_cons (pv 4) pa_nil)))
        (pss_cons (ps_set (i := 6) nd rfl (Or.inl rfl) (pe_call GS (hr.mono (by decide)) (by rfl) DS.mg DS.kp DS.b .nil pass0 (pa_cons (pv 3) pa_nil)))
        (pss_cons (ps_if (PW.pt (pw_or (pt_not (pt_val (pe_call GR (hr.mono (by decide)) (by rfl) DR.mg DR.kp DR.b .nil pass0 (pa_cons (pe_call N1.ok hr (by rfl) N1.mg N1.kp N1.b .nil pass0 (pa_cons (pv 4) pa_nil)) (pa_cons (pv 6) pa_nil)))))
          (pw_or1 (pt_not (pt_val (pe_call GR (hr.mono (by decide)) (by rfl) DR.mg DR.kp DR.b .nil pass0 (pa_cons (pe_callK0 N1.ok hr (by rfl) N1.mg N1.kp N1.k pass0 (pk_cons (pe_revL (pv 4)) pk_nil)) (pa_cons (pv 6) pa_nil)))))))) (pss_one (ps_ret pe_bl)) pss_nil)
        (pss_cons (ps_if (pt_not (pt_val (pe_call GR (hr.mono (by decide)) (by rfl) DR.mg DR.kp DR.b .nil pass0 (pa_cons (pe_lst (pa_cons (pe_call N2.ok hr (by rfl) N2.mg N2.kp N2.b .nil pass0 (pa_cons (pv 4) pa_nil)) (pa_cons (pe_call N3.ok hr (by rfl) N3.mg N3.kp N3.b .nil pass0 (pa_cons (pv 4) pa_nil)) pa_nil)))
          (pa_cons (pe_lst (pa_cons (pe_ix (r := rIxL K) ix_list (pv 6) pe_int (fun _ _ => rfl)) (pa_cons (pe_ix (r := rIxL K) ix_list (pv 6) (pe_un un_neg pe_int) (fun _ _ => rfl)) pa_nil))) pa_nil))))) (pss_one (ps_ret pe_bl)) pss_nil)
        (pss_cons (ps_if (pt_not (pt_val (pe_call GR (hr.mono (by decide)) (by rfl) DR.mg DR.kp DR.b .nil pass0 (pa_cons (pe_lst (pa_cons (pe_callK0 N2.ok hr (by rfl) N2.mg N2.kp N2.k pass0 (pk_cons (pe_revL (pv 4)) pk_nil)) (pa_cons (pe_callK0 N3.ok hr (by rfl) N3.mg N3.kp N3.k pass0 (pk_cons (pe_revL (pv 4)) pk_nil)) pa_nil)))
          (pa_cons (pe_lst (pa_cons (pe_ix (r := rIxL K) ix_list (pv 6) pe_int (fun _ _ => rfl)) (pa_cons (pe_ix (r := rIxL K) ix_list (pv 6) (pe_un un_neg pe_int) (fun _ _ => rfl)) pa_nil))) pa_nil))))) (pss_one (ps_ret pe_bl)) pss_nil)
        (pss_one (ps_if (pt_cmpR op_ne (pe_callB (call_reprL (D := ShwN C) hg (hr.mono (by decide)) (rpG_num GP OP bP) shw_mon) (by rfl) B.repr (by decide +kernel) (pa_cons (pv 4) pa_nil)) (pv 5) (nomark _)) (pss_one (ps_ret pe_bl)) pss_nil)))))))))))
      (pss_one (ps_ret pe_bl)))), ?_⟩
    show tSeq _ _ _ [some (V.ref a), none, none, none, none, none, none, none, none] H
    refine sA_setR ⟨_, rfl, a, ns, rfl, hS, hl, fun p l H1 hp0 ke P1 => ?_⟩
    show tSeq _ _ _ [some (V.ref a), some (V.ref p), none, none, none, none, none, none, none] H1
    refine sq_no (evb_none (evp_ascG (C := C) (K := K) (us := []) (qs := []) (ta := tLst tNil) (tc := fun sp => tCall sp [] E0 (tCons (tLst tNil) tNil)) (fun _ _ _ _ h => h) (fun p hp => by cases hp) (fun p => Iff.rfl) (by decide) (evp_nil.imp fun v H h => seq_lst h))) fun H2 g2 => ?_
    have P2' := P1.grow g2
    refine sq_for (n := 6) (fun i σ H' => ∃ (y2 y3 y4 y5 y6 : Option V) (k r : Int), σ = [some (V.ref a), some (V.ref p), y2, y3, y4, y5, y6, none, none] ∧ PenAt H' p l ns k r ∧ k ≤ 80 * (i : Int))
      (EvPs.cons stb_is evp_c EvPs.nil) (by decide) (fun H' g => ⟨_, _, _, _, _, 0, 0, rfl, P2'.grow g, by decide⟩) ?_ ?_
    · rintro i σ H3 hi ⟨y2, y3, y4, y5, y6, k, r, rfl, P3, hk⟩ D' hD
      have hi' : (i : Int) < 6 := by omega
      show tSeq _ _ _ [some (V.ref a), some (V.ref p), some (V.int (i : Int)), y3, y4, y5, y6, none, none] H3
      refine sA_setR ⟨_, rfl, p, l, ns, k, r, 7, rfl, P3, by omega, by decide, by decide, fun d1 k1 r1 H4 a0 a1 ak B4 P4 => ⟨_, _, rfl, rfl, 1 + d1, rfl, by omega, by omega, ?_⟩⟩
      refine lc_parts (Q := fun v H' => tSeq _ _ D' ([some (V.ref a), some (V.ref p), some (V.int (i : Int)), y3, y4, y5, y6, none, none].set 3 (some v)) H') (n := 1 + d1) (σ := [some (V.ref a), some (V.ref p), some (V.int (i : Int)), y3, y4, y5, y6, none, none]) (j := 7) P4 (by omega) (by omega) (by omega) (fun _ => rfl) fun D k2 r2 H5 us hk2 B5 P5 hus nm nDp hL => ?_
      obtain ⟨_, xs, e0, hx, hA⟩ := hL
      cases e0
      have hlen := hA.length
      show tSeq _ _ _ [some (V.ref a), some (V.ref p), some (V.int (i : Int)), some (.ref D), y4, y5, y6, none, none] H5
      refine sA_setR ⟨_, rfl, _, rfl, _, rfl, p, l, ns, k2, r2, 3, rfl, P5, by omega, by decide, by decide, fun d2 k3 r3 H6 b0 b1 bk B6 P6 => ⟨_, rfl, D, xs, rfl, SqL.of (B6 D _ nDp hx), fun z hz => ?_⟩⟩
      obtain ⟨m, em⟩ := cut_take xs d2
      rw [em]
      have hx6 := B6 D _ nDp hx
      have zD : z ≠ D := (ne_of_none hx6 hz).symm
      have big : 1000 ≤ sizeLine := by decide
      refine ⟨D, z, xs, xs.take m, rfl, rfl, by rw [upd_ne zD.symm]; exact hx6, upd_same, by rw [List.length_take]; omega, fun z2 hz2 _ => ?_⟩
      have hA6 := firm_part.allB P5.pen B6 hA
      have g7 : Grow H6 (upd (upd H6 z (.lst (xs.take m))) z2 (.lst (xs ++ xs.take m))) := (grow_new hz).tr (grow_new hz2)
      have hU : All2 (fun p x => PartR p x (upd (upd H6 z (.lst (xs.take m))) z2 (.lst (xs ++ xs.take m)))) (us ++ us.take m) (xs ++ xs.take m) := firm_part.all g7 (hA6.append (hA6.take m))
      have hZ : (upd (upd H6 z (.lst (xs.take m))) z2 (.lst (xs ++ xs.take m))) z2 = some (.lst (xs ++ xs.take m)) := upd_same
      have P7 := P6.grow g7
      have z2p : z2 ≠ p := (ne_of_none (P6.new (o := .lst (xs.take m)) hz).pen hz2).symm
      show tSeq _ _ _ [some (V.ref a), some (V.ref p), some (V.int (i : Int)), some (.ref z2), y4, y5, y6, none, none] _
      generalize upd (upd H6 z (.lst (xs.take m))) z2 (.lst (xs ++ xs.take m)) = H7 at g7 hU hZ P7 ⊢
      have nm2 : ∀ u ∈ us ++ us.take m, Nm u := fun u hu => by
        rcases List.mem_append.mp hu with z | z
        · exact nm u z
        · exact nm u (List.mem_of_mem_take z)
      have l2 : (us ++ us.take m).length ≤ 14 := by rw [List.length_append, List.length_take]; omega
      have ne2 : us ++ us.take m ≠ [] := fun e => by
        have := congrArg List.length e
        rw [List.length_append, List.length_nil] at this
        omega
      generalize us ++ us.take m = qs at hU nm2 l2 ne2
      generalize xs ++ xs.take m = ws at hU hZ
      refine sA_setR ⟨_, rfl, z2, rfl, ⟨_, SqL.of hZ⟩, ?_⟩
      refine lc_numbers (Q := fun v H' => tSeq _ _ D' ([some (V.ref a), some (V.ref p), some (V.int (i : Int)), some (.ref z2), y4, y5, y6, none, none].set 4 (some v)) H') (σ := [some (V.ref a), some (V.ref p), some (V.int (i : Int)), some (.ref z2), y4, y5, y6, none, none]) (j := 8) P7 (by omega) hZ z2p hU nm2 (by omega) (fun _ => rfl) (fun _ => rfl) fun N k4 r4 H8 hk4 B8 P8 hN => ?_
      have hU8 := firm_part.allB P7.pen B8 hU
      have hZ8 := B8 z2 _ z2p hZ
      show tSeq _ _ _ [some (V.ref a), some (V.ref p), some (V.int (i : Int)), some (.ref z2), some (.ref N), y5, y6, none, none] H8
      obtain ⟨_, vs, e0, hv, hV⟩ := id hN
      cases e0
      have ag := args_low nm2 (by omega)
      obtain ⟨ts, t1, t2, t3⟩ := nums_txt hV ag.lw
      have vlen := hV.length
      rw [List.length_map] at vlen
      have vne : vs ≠ [] := fun e => ne2 (List.length_eq_zero_iff.mp (by rw [vlen, e]; rfl))
      have tsz : (listText ts).length ≤ sizeLine := by
        have h1 := list_len ts
        have h2 := piled_le t3
        have h3 : ts.length * (40 + 2) ≤ 14 * 42 := Nat.mul_le_mul_right _ (by omega)
        omega
      refine sq_set (P := IsP (.str (listText ts))) (evp_rep (C := C) (i := 4) (σ := [some (V.ref a), some (V.ref p), some (V.int (i : Int)), some (.ref z2), some (.ref N), y5, y6, none, none]) rfl hv vne t1 t2 tsz) fun v5 H9 g9 e5 => ?_
      cases (show v5 = V.str (listText ts) from e5)
      refine sq_set (P := LstR PartR (srt qs)) (fun H1 g Q q => ⟨_, rfl, .ref z2, qs, rfl, seq_lst ⟨z2, ws, rfl, g _ _ (g9 _ _ hZ8), firm_part.all (g9.tr g) hU8⟩, nm2, by omega, fun v H' g' h => q v H' g' h⟩) fun v6 H10 g10 p6 => ?_
      show tSeq _ _ _ [some (V.ref a), some (V.ref p), some (V.int (i : Int)), some (.ref z2), some (.ref N), some (V.str (listText ts)), some v6, none, none] H10
      have gN := g9.tr g10
      have hN10 := stb_lstR firm_num _ _ _ gN hN
      have stbN : Stb (LstR (NumR C) (qs.map low)) := stb_lstR firm_num
      have stbP : Stb (LstR PartR (srt qs)) := stb_lstR firm_part
      have eN : EvP (tVar 4) [some (V.ref a), some (V.ref p), some (V.int (i : Int)), some (.ref z2), some (.ref N), some (V.str (listText ts)), some v6, none, none] H10 (LstR (NumR C) (qs.map low)) := evp_var rfl hN10 stbN
      have eD : EvP (tVar 6) [some (V.ref a), some (V.ref p), some (V.int (i : Int)), some (.ref z2), some (.ref N), some (V.str (listText ts)), some v6, none, none] H10 (LstR PartR (srt qs)) := evp_var rfl p6 stbP
      have eS := eN.imp fun v H h => seq_lst (K := K) h
      have eR := (evp_rev (K := K) firm_num eN).imp fun v H h => seq_lst (K := K) h
      rw [← List.map_reverse] at eR
      have same : ∀ p, p ∈ qs ↔ p ∈ qs := fun _ => Iff.rfl
      have samr : ∀ p, p ∈ qs.reverse ↔ p ∈ qs := fun _ => List.mem_reverse
      have lr : qs.reverse.length ≤ 20 := by rw [List.length_reverse]; omega
      have ner : qs.reverse ≠ [] := fun e => ne2 (List.reverse_eq_nil_iff.mp e)
      have nS : ∀ u ∈ srt qs, Nm u := fun u hu => nm2 u (srt_mem _ u hu)
      have lS : (srt qs).length ≤ 100 := by have := srt_len1 qs; omega
      have tst1 := evb_or (evb_not (evb_are (K := K) nS lS (evp_ascG (C := C) (K := K) (tc := fun sp => tCall sp [] E0 (tCons (tVar 4) tNil)) (fun _ _ _ _ h => h) nm2 same (by omega) eS) eD))
        (evb_not (evb_are (K := K) nS lS (evp_ascG (C := C) (K := K) (tc := fun sp => tCallK0 sp g01 E0 (tCons (tRevL K (tVar 4)) tNil)) (fun _ _ _ _ h => h) nm2 samr lr eR) eD))
      obtain ⟨p0, r0, s0⟩ : ∃ p r, srt qs = p :: r := by
        cases e : srt qs with
        | nil => exact absurd e (srt_ne ne2)
        | cons p r => exact ⟨p, r, rfl⟩
      obtain ⟨r1', p1, s1⟩ : ∃ r p, srt qs = r ++ [p] := ⟨_, _, (List.dropLast_concat_getLast (srt_ne ne2)).symm⟩
      have n01 : ∀ u ∈ [p0, p1], Nm u := fun u hu => by
        rcases List.mem_cons.mp hu with z | z
        · rw [z]; exact nS p0 (by rw [s0]; exact List.mem_cons_self)
        · rw [List.mem_singleton.mp z]; exact nS p1 (by rw [s1]; exact List.mem_append_right _ List.mem_cons_self)
      have eD0 := eD
      rw [s0] at eD0
      have eD1 := eD
      rw [s1] at eD1
      have ends := evp_two firm_part (evp_first (K := K) firm_part eD0) (evp_last (K := K) firm_part eD1)
      have tst2 := evb_not (evb_are (K := K) n01 (by show 2 ≤ 100; decide) (evp_two (a := low p0) (b := low p1) firm_rat (evp_leastG (C := C) (K := K) (tc := fun sp => tCall sp [] E0 (tCons (tVar 4) tNil)) (fun _ _ _ _ h => h) nm2 same (by omega) ne2 eS s0)
        (evp_greatG (C := C) (K := K) (tc := fun sp => tCall sp [] E0 (tCons (tVar 4) tNil)) (fun _ _ _ _ h => h) nm2 same (by omega) ne2 eS s1)) ends)
      have tst3 := evb_not (evb_are (K := K) n01 (by show 2 ≤ 100; decide) (evp_two (a := low p0) (b := low p1) firm_rat (evp_leastG (C := C) (K := K) (tc := fun sp => tCallK0 sp g01 E0 (tCons (tRevL K (tVar 4)) tNil)) (fun _ _ _ _ h => h) nm2 samr lr ner eR s0)
        (evp_greatG (C := C) (K := K) (tc := fun sp => tCallK0 sp g01 E0 (tCons (tRevL K (tVar 4)) tNil)) (fun _ _ _ _ h => h) nm2 samr lr ner eR s1)) ends)
      have tst4 : EvB (tTest (tOp rNe (tCB (rReprL (ShwN C)) (tCons (tVar 4) tNil)) (tVar 5))) [some (V.ref a), some (V.ref p), some (V.int (i : Int)), some (.ref z2), some (.ref N), some (V.str (listText ts)), some v6, none, none] H10 false := fun H11 g11 Q q =>
        evp_rep (C := C) (i := 4) (σ := [some (V.ref a), some (V.ref p), some (V.int (i : Int)), some (.ref z2), some (.ref N), some (V.str (listText ts)), some v6, none, none]) rfl (gN _ _ hv) vne t1 (fun i x e => (t2 i x e).imp fun t z => ⟨z.1, shw_mon _ _ _ _ gN z.2⟩) tsz H11 g11 _ fun v H12 g12 e => by
          cases (show v = V.str (listText ts) from e)
          exact ⟨_, rfl, rfl, _, rfl, by rw [decide_eq_true rfl]; exact q H12 g12⟩
      refine sq_no tst1 fun H11 g11 => ?_
      refine sq_no (tst2.grow g11) fun H12 g12 => ?_
      refine sq_no (tst3.grow (g11.tr g12)) fun H13 g13 => ?_
      refine ls_no (tst4.grow ((g11.tr g12).tr g13)) fun H14 g14 => ?_
      exact hD _ _ ⟨_, _, _, _, _, k4, r4, rfl, P8.grow (((gN.tr g11).tr g12).tr (g13.tr g14)), by omega⟩
    · rintro σ H' _
      exact q H'
end
end B3
set_option maxRecDepth 100000
set_option maxHeartbeats 8000000
namespace B3
open PySem PySem.Spec PyProof.Rows L2 RX LP XO AX SX TX
/-! ### what the top has written, looked at in one go -/
def rB (K : PySem.W.Frag) (C CI CQ : Addr) : Bool := PySem.W.plainGet K C Str.empty && (PySem.W.hasDictIn K C && (PySem.W.plainOver K C && (decide (PySem.W.findIn K (.ref C) "__setattr__" = some (some (.builtin "object.__setattr__"))) && (decide (PySem.W.findIn K (.ref C) "top" = some none) && (decide (PySem.W.findIn K (.ref C) "bottom" = some none) && (PySem.W.excIn K CI [.type "ValueError", .type "Exception", .type "BaseException", .type "object"] "ValueError.__new__" && (PySem.W.keepIn K (.ref CI) && (decide (PySem.W.subIn K (.ref CI) (.type "BaseException") = some true) && (decide (PySem.W.typeIn K (.ref CI) = some (.type "type")) && (PySem.W.excIn K CQ [.type "ValueError", .type "Exception", .type "BaseException", .type "object"] "ValueError.__new__" && (PySem.W.keepIn K (.ref CQ) && (decide (PySem.W.subIn K (.ref CQ) (.type "BaseException") = some true) && (decide (PySem.W.typeIn K (.ref CQ) = some (.type "type")) && (decide (PySem.W.findIn K (.ref C) "__class__" = some (some (.builtin "object.__class__"))) && (decide (PySem.W.specialIn K (.builtin "object.__class__") "__get__" = some (some (.builtin "getset_descriptor.__get__"))) && (decide (PySem.W.takesIn K (.builtin "object.__class__") = some true) && (decide (PySem.W.mroIn K C (.type "object") = some true) && (decide (PySem.W.kitOne K (.ref C) (.type "int") = some false) && (decide (PySem.W.kitOne K (.ref C) (.type "bool") = some false) && (decide (PySem.W.kitOne K (.ref C) (.ref C) = some true) && (["NoneType", "bool", "int", "str", "list", "tuple", "dict"].all fun n => decide (PySem.W.kitOne K (.type n) (.ref C) = some false))))))))))))))))))))))
def sB (K : PySem.W.Frag) (C : Addr) : Bool := PySem.W.makesIn K C && (PySem.W.keepIn K (.ref C) && (PySem.W.readsIn K C (.type "type") && (decide (PySem.W.specialIn K (.ref C) "__getattribute__" = some (some (.builtin "type.__getattribute__"))))))
theorem rt_of {K : PySem.W.Frag} {mg : Str → Option Value} {C CI CQ : Addr} (h : rB K C CI CQ = true) (gR : mg "Ratio" = some (.ref C)) (gI : mg "InvalidRatio" = some (.ref CI)) (gQ : mg "NoQuotient" = some (.ref CQ)) (gcd : mg "gcd" = some (.builtin "math.gcd")) (zb : mg "bool" = none) (B : Bl mg) : RTx K mg C CI CQ := by
  unfold rB at h
  simp only [Bool.and_eq_true, decide_eq_true_eq, List.all_eq_true] at h
  obtain ⟨pg, hd, po, sa, nT, nB, xI, kI, bI, tI, xQ, kQ, bQ, tQ, ha, hn, ht, hm, kInt, kBool, kR, kOf⟩ := h
  exact { cl := ⟨pg, hd, po, sa⟩, nT := nT, nB := nB, gR := gR, gI := gI, xI := xI, kI := kI, bI := bI, tI := tI, gQ := gQ, xQ := xQ, kQ := kQ, bQ := bQ, tQ := tQ, ha := ha, hn := hn, ht := ht, hm := hm, kInt := kInt, kBool := kBool, kR := kR, kOf := kOf, gcd := gcd, isi := B.isi, int := B.int, bool := zb }
/-- the law's call, from its caller -/
def LawRun (P : Program) (w : World) (K : PySem.W.Frag) (mg : Str → Option Value) (fa : Addr) : Prop := ∀ (base : Heap) (s : Shared) (a : Addr) (ns : List Int) (H : Hp), Env0 P w K mg base callerA [] s H → SqL K H a (ns.map V.int) → ns.length ≤ 63 →
  codeAny (model P w) callerA (.call (.ref fa) ⟨[.ref a], []⟩) (CR CX0 [] P w H s (fun v _ => v = .bl true) fun _ _ _ => False) s
theorem walk {l : PySem.W.OpenLaw} {q : Program} {loose : List Str} {XP : (Str → Option Value) → Heap → Prop} {YP : World → Heap → Prop} {d : DefRec} {K : Params → PySem.W.Frag} (hn : l.most = some 63) (hdf : d.params.defaults = []) (hY : ∀ (w : World) (h : Heap), YP w h → (K w.params).In h)
    (F : ∀ (w : World) (mg : Str → Option Value) (fa : Addr) (h : Heap), (K w.params).In h → h.Ns mainGlobals mg → mg d.name = some (.ref fa) → LawRun l.prog w (K w.params) mg fa) :
    PySem.W.WalkO q loose XP YP l.row.toRowW d [] (fun f vs => PySem.call f vs) := by
  refine Att.attach_call hn hdf fun w s₀ s₁ mg mb fa o pm cd doc a vs ns G Y ho hd hcd hmg hobj hints hlen hg => ?_
  have KX := hY w _ Y
  exact law_at KX G.T.g G.T.b G.T.builtins G.T.nolimit hg hobj hints (Nat.le_trans hlen (by decide)) fun base H _ _ e0 _ sq => F w mg fa _ KX G.T.g hmg base s₁ a ns H e0 sq hlen
theorem g01_rel {vs zs : List V} {us ws : List Value} (r1 : Vals vs us) (r2 : Vals zs ws) : Vals (g01 vs zs) (g01 us ws) := by
  cases r1 with
  | cons a r => exact .nil
  | nil =>
    cases r2 with
    | nil => exact .nil
    | cons b r' =>
      cases r' with
      | nil => exact .cons b .nil
      | cons => exact .nil
theorem mk {P : Program} {w : World} {K : PySem.W.Frag} {h : Heap} {mg : Str → Option Value} {fa : Addr} (X : K.In h) (G : h.Ns mainGlobals mg) (hfa : mg "law" = some (.ref fa))
    {C CI CQ : Addr}
    {F0 : Addr} {Oc0 Kv0 Do0 Pm0 Cd0 Ct0 : Value} {Od0 An0 : Option Addr} {Sl0 : Array (Option Value)}
    {F1 : Addr} {Oc1 Kv1 Do1 Pm1 Cd1 Ct1 : Value} {Od1 An1 : Option Addr} {Sl1 : Array (Option Value)}
    {F2 : Addr} {Oc2 Kv2 Do2 Pm2 Cd2 Ct2 : Value} {Od2 An2 : Option Addr} {Sl2 : Array (Option Value)}
    {F3 : Addr} {Oc3 Kv3 Do3 Pm3 Cd3 Ct3 : Value} {Od3 An3 : Option Addr} {Sl3 : Array (Option Value)}
    {F4 : Addr} {Oc4 Kv4 Do4 Pm4 Cd4 Ct4 : Value} {Od4 An4 : Option Addr} {Sl4 : Array (Option Value)}
    {F5 : Addr} {Oc5 Kv5 Do5 Pm5 Cd5 Ct5 : Value} {Od5 An5 : Option Addr} {Sl5 : Array (Option Value)}
    {F6 : Addr} {Oc6 Kv6 Do6 Pm6 Cd6 Ct6 : Value} {Od6 An6 : Option Addr} {Sl6 : Array (Option Value)}
    {F7 : Addr} {Oc7 Kv7 Do7 Pm7 Cd7 Ct7 : Value} {Od7 An7 : Option Addr} {Sl7 : Array (Option Value)}
    {F8 : Addr} {Oc8 Kv8 Do8 Pm8 Cd8 Ct8 : Value} {Od8 An8 : Option Addr} {Sl8 : Array (Option Value)}
    {F9 : Addr} {Oc9 Kv9 Do9 Pm9 Cd9 Ct9 : Value} {Od9 An9 : Option Addr} {Sl9 : Array (Option Value)}
    {F10 : Addr} {Oc10 Kv10 Do10 Pm10 Cd10 Ct10 : Value} {Od10 An10 : Option Addr} {Sl10 : Array (Option Value)}
    {F11 : Addr} {Oc11 Kv11 Do11 Pm11 Cd11 Ct11 : Value} {Od11 An11 : Option Addr} {Sl11 : Array (Option Value)}
    {M0 : Addr} {Mo0 Mk0 Md0 Mp0 Mc0 Mt0 : Value} {Mq0 Mn0 : Option Addr} {Ms0 : Array (Option Value)}
    {dT : Addr} {oT : Value} {qT : Option Addr} {nT : Nat} {tT : Tok} {sT : Array (Option Value)}
    {M1 : Addr} {Mo1 Mk1 Md1 Mp1 Mc1 Mt1 : Value} {Mq1 Mn1 : Option Addr} {Ms1 : Array (Option Value)}
    {pO : Addr} {rO : List Value}
    {M2 : Addr} {Mo2 Mk2 Md2 Mp2 Mc2 Mt2 : Value} {Mq2 Mn2 : Option Addr} {Ms2 : Array (Option Value)}
    {M3 : Addr} {Mo3 Mk3 Md3 Mp3 Mc3 Mt3 : Value} {Mq3 Mn3 : Option Addr} {Ms3 : Array (Option Value)}
    (gC : PySem.W.nsIn K mainGlobals "Ratio" = some (some (.ref C)))
    (gCI : PySem.W.nsIn K mainGlobals "InvalidRatio" = some (some (.ref CI)))
    (gCQ : PySem.W.nsIn K mainGlobals "NoQuotient" = some (some (.ref CQ)))
    (gG : PySem.W.nsIn K mainGlobals "gcd" = some (some (.builtin "math.gcd")))
    (gL : PySem.W.nsIn K mainGlobals "lcm" = some (some (.builtin "math.lcm")))
    (z_bool : PySem.W.nsIn K mainGlobals "bool" = some none)
    (z_abs : PySem.W.nsIn K mainGlobals "abs" = some none)
    (z_int : PySem.W.nsIn K mainGlobals "int" = some none)
    (z_isinstance : PySem.W.nsIn K mainGlobals "isinstance" = some none)
    (z_repr : PySem.W.nsIn K mainGlobals "repr" = some none)
    (z_list : PySem.W.nsIn K mainGlobals "list" = some none)
    (z_len : PySem.W.nsIn K mainGlobals "len" = some none)
    (z_range : PySem.W.nsIn K mainGlobals "range" = some none)
    (z_sorted : PySem.W.nsIn K mainGlobals "sorted" = some none)
    (z_set : PySem.W.nsIn K mainGlobals "set" = some none)
    (z_min : PySem.W.nsIn K mainGlobals "min" = some none)
    (z_max : PySem.W.nsIn K mainGlobals "max" = some none)
    (A0 : PySem.W.nsIn K mainGlobals "whole" = some (some (.ref F0)))
    (L0 : K.lookup F0 = some ⟨Oc0, Od0, .func (PySem.W.fnOf "whole" "whole" (defArgs sWhole) (defBody sWhole) (defScope sWhole) .none Kv0 Do0 Pm0 An0 Cd0 Ct0), Sl0⟩)
    (Q0 : PySem.W.codeIn K Cd0 "whole" = true)
    (K0 : PySem.W.keepIn K (.ref F0) = true)
    (A1 : PySem.W.nsIn K mainGlobals "ascending" = some (some (.ref F1)))
    (L1 : K.lookup F1 = some ⟨Oc1, Od1, .func (PySem.W.fnOf "ascending" "ascending" (defArgs sAsc) (defBody sAsc) (defScope sAsc) .none Kv1 Do1 Pm1 An1 Cd1 Ct1), Sl1⟩)
    (Q1 : PySem.W.codeIn K Cd1 "ascending" = true)
    (K1 : PySem.W.keepIn K (.ref F1) = true)
    (A2 : PySem.W.nsIn K mainGlobals "least" = some (some (.ref F2)))
    (L2 : K.lookup F2 = some ⟨Oc2, Od2, .func (PySem.W.fnOf "least" "least" (defArgs sLeast) (defBody sLeast) (defScope sLeast) .none Kv2 Do2 Pm2 An2 Cd2 Ct2), Sl2⟩)
    (Q2 : PySem.W.codeIn K Cd2 "least" = true)
    (K2 : PySem.W.keepIn K (.ref F2) = true)
    (A3 : PySem.W.nsIn K mainGlobals "greatest" = some (some (.ref F3)))
    (L3 : K.lookup F3 = some ⟨Oc3, Od3, .func (PySem.W.fnOf "greatest" "greatest" (defArgs sGreat) (defBody sGreat) (defScope sGreat) .none Kv3 Do3 Pm3 An3 Cd3 Ct3), Sl3⟩)
    (Q3 : PySem.W.codeIn K Cd3 "greatest" = true)
    (K3 : PySem.W.keepIn K (.ref F3) = true)
    (A4 : PySem.W.nsIn K mainGlobals "_law_pen" = some (some (.ref F4)))
    (L4 : K.lookup F4 = some ⟨Oc4, Od4, .func (PySem.W.fnOf "_law_pen" "_law_pen" (defArgs sPen) (defBody sPen) (defScope sPen) .none Kv4 Do4 Pm4 An4 Cd4 Ct4), Sl4⟩)
    (Q4 : PySem.W.codeIn K Cd4 "_law_pen" = true)
    (K4 : PySem.W.keepIn K (.ref F4) = true)
    (A5 : PySem.W.nsIn K mainGlobals "_law_draw" = some (some (.ref F5)))
    (L5 : K.lookup F5 = some ⟨Oc5, Od5, .func (PySem.W.fnOf "_law_draw" "_law_draw" (defArgs sDraw) (defBody sDraw) (defScope sDraw) .none Kv5 Do5 Pm5 An5 Cd5 Ct5), Sl5⟩)
    (Q5 : PySem.W.codeIn K Cd5 "_law_draw" = true)
    (K5 : PySem.W.keepIn K (.ref F5) = true)
    (A6 : PySem.W.nsIn K mainGlobals "_law_parts" = some (some (.ref F6)))
    (L6 : K.lookup F6 = some ⟨Oc6, Od6, .func (PySem.W.fnOf "_law_parts" "_law_parts" (defArgs sParts) (defBody sParts) (defScope sParts) .none Kv6 Do6 Pm6 An6 Cd6 Ct6), Sl6⟩)
    (Q6 : PySem.W.codeIn K Cd6 "_law_parts" = true)
    (K6 : PySem.W.keepIn K (.ref F6) = true)
    (A7 : PySem.W.nsIn K mainGlobals "_law_number" = some (some (.ref F7)))
    (L7 : K.lookup F7 = some ⟨Oc7, Od7, .func (PySem.W.fnOf "_law_number" "_law_number" (defArgs sNumber) (defBody sNumber) (defScope sNumber) .none Kv7 Do7 Pm7 An7 Cd7 Ct7), Sl7⟩)
    (Q7 : PySem.W.codeIn K Cd7 "_law_number" = true)
    (K7 : PySem.W.keepIn K (.ref F7) = true)
    (A8 : PySem.W.nsIn K mainGlobals "_law_before" = some (some (.ref F8)))
    (L8 : K.lookup F8 = some ⟨Oc8, Od8, .func (PySem.W.fnOf "_law_before" "_law_before" (defArgs sBefore) (defBody sBefore) (defScope sBefore) .none Kv8 Do8 Pm8 An8 Cd8 Ct8), Sl8⟩)
    (Q8 : PySem.W.codeIn K Cd8 "_law_before" = true)
    (K8 : PySem.W.keepIn K (.ref F8) = true)
    (A9 : PySem.W.nsIn K mainGlobals "_law_sorted" = some (some (.ref F9)))
    (L9 : K.lookup F9 = some ⟨Oc9, Od9, .func (PySem.W.fnOf "_law_sorted" "_law_sorted" (defArgs sSorted) (defBody sSorted) (defScope sSorted) .none Kv9 Do9 Pm9 An9 Cd9 Ct9), Sl9⟩)
    (Q9 : PySem.W.codeIn K Cd9 "_law_sorted" = true)
    (K9 : PySem.W.keepIn K (.ref F9) = true)
    (A10 : PySem.W.nsIn K mainGlobals "_law_are" = some (some (.ref F10)))
    (L10 : K.lookup F10 = some ⟨Oc10, Od10, .func (PySem.W.fnOf "_law_are" "_law_are" (defArgs sAre) (defBody sAre) (defScope sAre) .none Kv10 Do10 Pm10 An10 Cd10 Ct10), Sl10⟩)
    (Q10 : PySem.W.codeIn K Cd10 "_law_are" = true)
    (K10 : PySem.W.keepIn K (.ref F10) = true)
    (A11 : PySem.W.nsIn K mainGlobals "law" = some (some (.ref F11)))
    (L11 : K.lookup F11 = some ⟨Oc11, Od11, .func (PySem.W.fnOf "law" "law" (defArgs sLaw) (defBody sLaw) (defScope sLaw) .none Kv11 Do11 Pm11 An11 Cd11 Ct11), Sl11⟩)
    (Q11 : PySem.W.codeIn K Cd11 "law" = true)
    (K11 : PySem.W.keepIn K (.ref F11) = true)
    (m0 : PySem.W.findIn K (.ref C) "__init__" = some (some (.ref M0)))
    (l0 : K.lookup M0 = some ⟨Mo0, Mq0, .func (PySem.W.fnOf "__init__" "Ratio.__init__" (defArgs sInit) (defBody sInit) (defScope sInit) (.ref dT) Mk0 Md0 Mp0 Mn0 Mc0 Mt0), Ms0⟩)
    (lT : K.lookup dT = some ⟨oT, qT, .seq [Value.int 1 tT].toArray nT, sT⟩)
    (q0 : PySem.W.codeIn K Mc0 "Ratio.__init__" = true)
    (k0 : PySem.W.keepIn K (.ref M0) = true)
    (i0 : PySem.W.isFn K (.ref M0) = true)
    (m_of : PySem.W.findIn K (.ref C) "of" = some (some (.ref pO)))
    (r_of : PySem.W.recIn K pO "classmethod" = some (.ref M1 :: rO))
    (c_of : PySem.W.findCls K (.ref C) (.type "type") "of" = some (.get (.builtin "classmethod.__get__") (.ref pO) .none (.ref C)))
    (f_of : PySem.W.fnIn K M1 = true)
    (l1 : K.lookup M1 = some ⟨Mo1, Mq1, .func (PySem.W.fnOf "of" "Ratio.of" (defArgs sOf) (defBody sOf) (defScope sOf) .none Mk1 Md1 Mp1 Mn1 Mc1 Mt1), Ms1⟩)
    (q1 : PySem.W.codeIn K Mc1 "Ratio.of" = true)
    (k1 : PySem.W.keepIn K (.ref M1) = true)
    (m2 : PySem.W.findIn K (.ref C) "__eq__" = some (some (.ref M2)))
    (l2 : K.lookup M2 = some ⟨Mo2, Mq2, .func (PySem.W.fnOf "__eq__" "Ratio.__eq__" (defArgs sEq) (defBody sEq) (defScope sEq) .none Mk2 Md2 Mp2 Mn2 Mc2 Mt2), Ms2⟩)
    (q2 : PySem.W.codeIn K Mc2 "Ratio.__eq__" = true)
    (k2 : PySem.W.keepIn K (.ref M2) = true)
    (i2 : PySem.W.isFn K (.ref M2) = true)
    (m3 : PySem.W.findIn K (.ref C) "__repr__" = some (some (.ref M3)))
    (l3 : K.lookup M3 = some ⟨Mo3, Mq3, .func (PySem.W.fnOf "__repr__" "Ratio.__repr__" (defArgs sRepr) (defBody sRepr) (defScope sRepr) .none Mk3 Md3 Mp3 Mn3 Mc3 Mt3), Ms3⟩)
    (q3 : PySem.W.codeIn K Mc3 "Ratio.__repr__" = true)
    (k3 : PySem.W.keepIn K (.ref M3) = true)
    (i3 : PySem.W.isFn K (.ref M3) = true)
    (rb : rB K C CI CQ = true)
    (sb : sB K C = true) : LawRun P w K mg fa := by
  have e := hfa.symm.trans (PySem.W.mg_of X G A11)
  cases e
  have B : Bl mg := { abs := PySem.W.mg_none_of X G z_abs, int := PySem.W.mg_none_of X G z_int, isi := PySem.W.mg_none_of X G z_isinstance, repr := PySem.W.mg_none_of X G z_repr, list := PySem.W.mg_none_of X G z_list, len := PySem.W.mg_none_of X G z_len, range := PySem.W.mg_none_of X G z_range, sorted := PySem.W.mg_none_of X G z_sorted, set := PySem.W.mg_none_of X G z_set, min := PySem.W.mg_none_of X G z_min, max := PySem.W.mg_none_of X G z_max, lcm := PySem.W.mg_of X G gL }
  have T : RTx K mg C CI CQ := rt_of rb (PySem.W.mg_of X G gC) (PySem.W.mg_of X G gCI) (PySem.W.mg_of X G gCQ) (PySem.W.mg_of X G gG) (PySem.W.mg_none_of X G z_bool) B
  unfold sB at sb
  simp only [Bool.and_eq_true, decide_eq_true_eq] at sb
  obtain ⟨mk, kc, rd, ga⟩ := sb
  have Y0 := fun_mk (st := sWhole) L0 Q0 K0
  have D0 : At K mg "whole" F0 (PySem.W.fnOf "whole" "whole" (defArgs sWhole) (defBody sWhole) (defScope sWhole) .none Kv0 Do0 Pm0 An0 Cd0 Ct0) ["numbers"] := ⟨PySem.W.mg_of X G A0, K0, Y0.binds fun _ _ _ _ _ _ us hl => match us, hl with | [_], _ => rfl⟩
  have Y1 := fun_mk (st := sAsc) L1 Q1 K1
  have D1 : At K mg "ascending" F1 (PySem.W.fnOf "ascending" "ascending" (defArgs sAsc) (defBody sAsc) (defScope sAsc) .none Kv1 Do1 Pm1 An1 Cd1 Ct1) ["numbers"] := ⟨PySem.W.mg_of X G A1, K1, Y1.binds fun _ _ _ _ _ _ us hl => match us, hl with | [_], _ => rfl⟩
  have Y2 := fun_mk (st := sLeast) L2 Q2 K2
  have D2 : At K mg "least" F2 (PySem.W.fnOf "least" "least" (defArgs sLeast) (defBody sLeast) (defScope sLeast) .none Kv2 Do2 Pm2 An2 Cd2 Ct2) ["numbers"] := ⟨PySem.W.mg_of X G A2, K2, Y2.binds fun _ _ _ _ _ _ us hl => match us, hl with | [_], _ => rfl⟩
  have Y3 := fun_mk (st := sGreat) L3 Q3 K3
  have D3 : At K mg "greatest" F3 (PySem.W.fnOf "greatest" "greatest" (defArgs sGreat) (defBody sGreat) (defScope sGreat) .none Kv3 Do3 Pm3 An3 Cd3 Ct3) ["numbers"] := ⟨PySem.W.mg_of X G A3, K3, Y3.binds fun _ _ _ _ _ _ us hl => match us, hl with | [_], _ => rfl⟩
  have Y4 := fun_mk (st := sPen) L4 Q4 K4
  have D4 : At K mg "_law_pen" F4 (PySem.W.fnOf "_law_pen" "_law_pen" (defArgs sPen) (defBody sPen) (defScope sPen) .none Kv4 Do4 Pm4 An4 Cd4 Ct4) ["_law_script"] := ⟨PySem.W.mg_of X G A4, K4, Y4.binds fun _ _ _ _ _ _ us hl => match us, hl with | [_], _ => rfl⟩
  have Y5 := fun_mk (st := sDraw) L5 Q5 K5
  have D5 : At K mg "_law_draw" F5 (PySem.W.fnOf "_law_draw" "_law_draw" (defArgs sDraw) (defBody sDraw) (defScope sDraw) .none Kv5 Do5 Pm5 An5 Cd5 Ct5) ["_law_pen_here", "_law_many"] := ⟨PySem.W.mg_of X G A5, K5, Y5.binds fun _ _ _ _ _ _ us hl => match us, hl with | [_, _], _ => rfl⟩
  have Y6 := fun_mk (st := sParts) L6 Q6 K6
  have D6 : At K mg "_law_parts" F6 (PySem.W.fnOf "_law_parts" "_law_parts" (defArgs sParts) (defBody sParts) (defScope sParts) .none Kv6 Do6 Pm6 An6 Cd6 Ct6) ["_law_pen_here"] := ⟨PySem.W.mg_of X G A6, K6, Y6.binds fun _ _ _ _ _ _ us hl => match us, hl with | [_], _ => rfl⟩
  have Y7 := fun_mk (st := sNumber) L7 Q7 K7
  have D7 : At K mg "_law_number" F7 (PySem.W.fnOf "_law_number" "_law_number" (defArgs sNumber) (defBody sNumber) (defScope sNumber) .none Kv7 Do7 Pm7 An7 Cd7 Ct7) ["_law_pen_here", "_law_part"] := ⟨PySem.W.mg_of X G A7, K7, Y7.binds fun _ _ _ _ _ _ us hl => match us, hl with | [_, _], _ => rfl⟩
  have Y8 := fun_mk (st := sBefore) L8 Q8 K8
  have D8 : At K mg "_law_before" F8 (PySem.W.fnOf "_law_before" "_law_before" (defArgs sBefore) (defBody sBefore) (defScope sBefore) .none Kv8 Do8 Pm8 An8 Cd8 Ct8) ["_law_one", "_law_other"] := ⟨PySem.W.mg_of X G A8, K8, Y8.binds fun _ _ _ _ _ _ us hl => match us, hl with | [_, _], _ => rfl⟩
  have Y9 := fun_mk (st := sSorted) L9 Q9 K9
  have D9 : At K mg "_law_sorted" F9 (PySem.W.fnOf "_law_sorted" "_law_sorted" (defArgs sSorted) (defBody sSorted) (defScope sSorted) .none Kv9 Do9 Pm9 An9 Cd9 Ct9) ["_law_parts_here"] := ⟨PySem.W.mg_of X G A9, K9, Y9.binds fun _ _ _ _ _ _ us hl => match us, hl with | [_], _ => rfl⟩
  have Y10 := fun_mk (st := sAre) L10 Q10 K10
  have D10 : At K mg "_law_are" F10 (PySem.W.fnOf "_law_are" "_law_are" (defArgs sAre) (defBody sAre) (defScope sAre) .none Kv10 Do10 Pm10 An10 Cd10 Ct10) ["_law_found", "_law_parts_here"] := ⟨PySem.W.mg_of X G A10, K10, Y10.binds fun _ _ _ _ _ _ us hl => match us, hl with | [_, _], _ => rfl⟩
  have Y11 := fun_mk (st := sLaw) L11 Q11 K11
  have FI : FunD K "__init__" "Ratio.__init__" (defArgs sInit) (defBody sInit) (defScope sInit) [V.int 1] [] M0 (PySem.W.fnOf "__init__" "Ratio.__init__" (defArgs sInit) (defBody sInit) (defScope sInit) (.ref dT) Mk0 Md0 Mp0 Mn0 Mc0 Mt0) := ⟨⟨_, _, _, _, _, _, _, _, _, _, rfl, l0, q0, .inr ⟨List.cons_ne_nil _ _, dT, _, [Value.int 1 tT], nT, rfl, lT, rfl, .cons ⟨tT, rfl⟩ .nil⟩, .inl rfl⟩, k0⟩
  have bI2 : Binds K (PySem.W.fnOf "__init__" "Ratio.__init__" (defArgs sInit) (defBody sInit) (defScope sInit) (.ref dT) Mk0 Md0 Mp0 Mn0 Mc0 Mt0) psI [] := by
    obtain ⟨ds, r, z⟩ := FI.binds1 (ps := psI) 3 1 (List.cons_ne_nil _ _) rfl (fun T kV doc pm an cdv ct us its l1 l2 => match us, its, l1, l2 with | [_, _, _], [_], _, _ => ⟨_, rfl, rfl⟩)
    cases r
    exact z
  have U1 := fun_mk (st := sOf) l1 q1 k1
  have u1 : Binds K (PySem.W.fnOf "of" "Ratio.of" (defArgs sOf) (defBody sOf) (defScope sOf) .none Mk1 Md1 Mp1 Mn1 Mc1 Mt1) ["cls", "number"] [] := U1.binds fun _ _ _ _ _ _ us hl => match us, hl with | [_, _], _ => rfl
  have U2 := fun_mk (st := sEq) l2 q2 k2
  have u2 : Binds K (PySem.W.fnOf "__eq__" "Ratio.__eq__" (defArgs sEq) (defBody sEq) (defScope sEq) .none Mk2 Md2 Mp2 Mn2 Mc2 Mt2) ["self", "other"] [] := U2.binds fun _ _ _ _ _ _ us hl => match us, hl with | [_, _], _ => rfl
  have U3 := fun_mk (st := sRepr) l3 q3 k3
  have u3 : Binds K (PySem.W.fnOf "__repr__" "Ratio.__repr__" (defArgs sRepr) (defBody sRepr) (defScope sRepr) .none Mk3 Md3 Mp3 Mn3 Mc3 Mt3) ["self"] [] := U3.binds fun _ _ _ _ _ _ us hl => match us, hl with | [_], _ => rfl
  have bI1 : ∃ ds, Vals [V.int 1] ds ∧ Binds K (PySem.W.fnOf "__init__" "Ratio.__init__" (defArgs sInit) (defBody sInit) (defScope sInit) (.ref dT) Mk0 Md0 Mp0 Mn0 Mc0 Mt0) psI ds := FI.binds1 (ps := psI) 2 0 (List.cons_ne_nil _ _) rfl (fun T kV doc pm an cdv ct us its l1 l2 => match us, its, l1, l2 with | [_, _], [_], _, _ => ⟨_, rfl, rfl⟩)
  have v1 : KBinds K (PySem.W.fnOf "ascending" "ascending" (defArgs sAsc) (defBody sAsc) (defScope sAsc) .none Kv1 Do1 Pm1 An1 Cd1 Ct1) ["numbers"] ["numbers"] g01 g01 := ⟨fun s us ws _ hl => match us, ws, hl with | [], [_], _ => .of_eq rfl, fun r1 r2 => g01_rel r1 r2⟩
  have v2 : KBinds K (PySem.W.fnOf "least" "least" (defArgs sLeast) (defBody sLeast) (defScope sLeast) .none Kv2 Do2 Pm2 An2 Cd2 Ct2) ["numbers"] ["numbers"] g01 g01 := ⟨fun s us ws _ hl => match us, ws, hl with | [], [_], _ => .of_eq rfl, fun r1 r2 => g01_rel r1 r2⟩
  have v3 : KBinds K (PySem.W.fnOf "greatest" "greatest" (defArgs sGreat) (defBody sGreat) (defScope sGreat) .none Kv3 Do3 Pm3 An3 Cd3 Ct3) ["numbers"] ["numbers"] g01 g01 := ⟨fun s us ws _ hl => match us, ws, hl with | [], [_], _ => .of_eq rfl, fun r1 r2 => g01_rel r1 r2⟩
  intro base s a ns H e0 sq hl
  have RM : RMk P w K mg base C CI M0 (PySem.W.fnOf "__init__" "Ratio.__init__" (defArgs sInit) (defBody sInit) (defScope sInit) (.ref dT) Mk0 Md0 Mp0 Mn0 Mc0 Mt0) := ⟨⟨mk, m0, i0, kc⟩, ok_init T FI, bI2, bI1⟩
  have GP := ok_repr (P := P) (w := w) (base := base) T U3
  have GQ := ok_eq (P := P) (w := w) (base := base) T U2
  have Gof := ok_of (P := P) (w := w) (base := base) U1 T RM
  have OF : OfF P w K mg base C (.type "type") pO M1 (PySem.W.fnOf "of" "Ratio.of" (defArgs sOf) (defBody sOf) (defScope sOf) .none Mk1 Md1 Mp1 Mn1 Mc1 Mt1) := ⟨⟨rd, ga⟩, ⟨c_of, ⟨rO, r_of⟩, f_of⟩, Gof, u1⟩
  have Gw := ok_whole (P := P) (w := w) (base := base) Y0 T B OF
  have WH : WhF P w K mg base C F0 (PySem.W.fnOf "whole" "whole" (defArgs sWhole) (defBody sWhole) (defScope sWhole) .none Kv0 Do0 Pm0 An0 Cd0 Ct0) := ⟨Gw, D0.mg, D0.kp, D0.b⟩
  have N1 : NF P w K mg base "ascending" (spAsc K C) F1 (PySem.W.fnOf "ascending" "ascending" (defArgs sAsc) (defBody sAsc) (defScope sAsc) .none Kv1 Do1 Pm1 An1 Cd1 Ct1) := ⟨ok_asc (P := P) (w := w) (base := base) Y1 T B RM WH, D1.mg, D1.kp, D1.b, v1⟩
  have N2 : NF P w K mg base "least" (spLeast K C) F2 (PySem.W.fnOf "least" "least" (defArgs sLeast) (defBody sLeast) (defScope sLeast) .none Kv2 Do2 Pm2 An2 Cd2 Ct2) := ⟨ok_least (P := P) (w := w) (base := base) Y2 T B RM WH, D2.mg, D2.kp, D2.b, v2⟩
  have N3 : NF P w K mg base "greatest" (spGreat K C) F3 (PySem.W.fnOf "greatest" "greatest" (defArgs sGreat) (defBody sGreat) (defScope sGreat) .none Kv3 Do3 Pm3 An3 Cd3 Ct3) := ⟨ok_great (P := P) (w := w) (base := base) Y3 T B RM WH, D3.mg, D3.kp, D3.b, v3⟩
  have Gd := ok_draw (P := P) (w := w) (base := base) Y5 B
  have Ge := ok_pen (P := P) (w := w) (base := base) Y4 B
  have Gp := ok_parts (P := P) (w := w) (base := base) Y6 B Gd D5
  have Gn := ok_number (P := P) (w := w) (base := base) Y7 T RM Gd D5
  have Gb := ok_before (P := P) (w := w) (base := base) (mg := mg) Y8
  have Gs := ok_sorted (P := P) (w := w) (base := base) Y9 Gb D8
  have Gr := ok_are (P := P) (w := w) (base := base) Y10 T B RM GQ ⟨m2, i2⟩ u2
  have L := ok_law (P := P) (w := w) (base := base) Y11 B GP ⟨m3, i3⟩ u3 Ge D4 Gd D5 Gp D6 Gn D7 Gs D9 Gr D10 N1 N2 N3
  exact L.run callerA [] s H ⟨[.ref a], []⟩ [.ref a] [.ref a] _ _ ⟨rfl, by decide, by decide⟩ rfl e0 (.of_eq rfl) (.cons rfl .nil) ⟨a, ns, rfl, sq, hl, fun _ => rfl⟩
end B3
open PySem PySem.W PyProof.Rows
set_option maxRecDepth 100000 in
set_option maxHeartbeats 0 in
theorem PySem.Challenge.cw_betweenfaces_k04_numbers_in_order_holds : PySem.Challenge.rw_betweenfaces_k04_numbers_in_order.Holds := by
  w_on; o_law; k_head; (case hw => w_witness2)
  k_fill
  refine B3.walk (l := PySem.Challenge.rw_betweenfaces_k04_numbers_in_order) rfl rfl (fun w h Y => PySem.W.kIn_of Y) ?F
  case F =>
    intro w mg fa h KX G hmg
    refine' B3.mk KX G hmg ?u_gC ?u_gCI ?u_gCQ ?u_gG ?u_gL ?u_z_bool ?u_z_abs ?u_z_int ?u_z_isinstance ?u_z_repr ?u_z_list ?u_z_len ?u_z_range ?u_z_sorted ?u_z_set ?u_z_min ?u_z_max ?u_A0 ?u_L0 ?u_Q0 ?u_K0 ?u_A1 ?u_L1 ?u_Q1 ?u_K1 ?u_A2 ?u_L2 ?u_Q2 ?u_K2 ?u_A3 ?u_L3 ?u_Q3 ?u_K3 ?u_A4 ?u_L4 ?u_Q4 ?u_K4 ?u_A5 ?u_L5 ?u_Q5 ?u_K5 ?u_A6 ?u_L6 ?u_Q6 ?u_K6 ?u_A7 ?u_L7 ?u_Q7 ?u_K7 ?u_A8 ?u_L8 ?u_Q8 ?u_K8 ?u_A9 ?u_L9 ?u_Q9 ?u_K9 ?u_A10 ?u_L10 ?u_Q10 ?u_K10 ?u_A11 ?u_L11 ?u_Q11 ?u_K11 ?u_m0 ?u_l0 ?u_lT ?u_q0 ?u_k0 ?u_i0 ?u_m_of ?u_r_of ?u_c_of ?u_f_of ?u_l1 ?u_q1 ?u_k1 ?u_m2 ?u_l2 ?u_q2 ?u_k2 ?u_i2 ?u_m3 ?u_l3 ?u_q3 ?u_k3 ?u_i3 ?u_rb ?u_sb
    (case u_gC => k_is)
    (case u_gCI => k_is)
    (case u_gCQ => k_is)
    (case u_gG => k_is)
    (case u_gL => k_is)
    (case u_z_bool => k_is)
    (case u_z_abs => k_is)
    (case u_z_int => k_is)
    (case u_z_isinstance => k_is)
    (case u_z_repr => k_is)
    (case u_z_list => k_is)
    (case u_z_len => k_is)
    (case u_z_range => k_is)
    (case u_z_sorted => k_is)
    (case u_z_set => k_is)
    (case u_z_min => k_is)
    (case u_z_max => k_is)
    (case u_A0 => k_is)
    (case u_L0 => k_is)
    (case u_Q0 => k_is)
    (case u_K0 => k_is)
    (case u_A1 => k_is)
    (case u_L1 => k_is)
    (case u_Q1 => k_is)
    (case u_K1 => k_is)
    (case u_A2 => k_is)
    (case u_L2 => k_is)
    (case u_Q2 => k_is)
    (case u_K2 => k_is)
    (case u_A3 => k_is)
    (case u_L3 => k_is)
    (case u_Q3 => k_is)
    (case u_K3 => k_is)
    (case u_A4 => k_is)
    (case u_L4 => k_is)
    (case u_Q4 => k_is)
    (case u_K4 => k_is)
    (case u_A5 => k_is)
    (case u_L5 => k_is)
    (case u_Q5 => k_is)
    (case u_K5 => k_is)
    (case u_A6 => k_is)
    (case u_L6 => k_is)
    (case u_Q6 => k_is)
    (case u_K6 => k_is)
    (case u_A7 => k_is)
    (case u_L7 => k_is)
    (case u_Q7 => k_is)
    (case u_K7 => k_is)
    (case u_A8 => k_is)
    (case u_L8 => k_is)
    (case u_Q8 => k_is)
    (case u_K8 => k_is)
    (case u_A9 => k_is)
    (case u_L9 => k_is)
    (case u_Q9 => k_is)
    (case u_K9 => k_is)
    (case u_A10 => k_is)
    (case u_L10 => k_is)
    (case u_Q10 => k_is)
    (case u_K10 => k_is)
    (case u_A11 => k_is)
    (case u_L11 => k_is)
    (case u_Q11 => k_is)
    (case u_K11 => k_is)
    (case u_m0 => k_is)
    (case u_l0 => k_is)
    (case u_lT => k_is)
    (case u_q0 => k_is)
    (case u_k0 => k_is)
    (case u_i0 => k_is)
    (case u_m_of => k_is)
    (case u_r_of => k_is)
    (case u_c_of => kernel_rfl)
    (case u_f_of => kernel_rfl)
    (case u_l1 => k_is)
    (case u_q1 => k_is)
    (case u_k1 => k_is)
    (case u_m2 => k_is)
    (case u_l2 => k_is)
    (case u_q2 => k_is)
    (case u_k2 => k_is)
    (case u_i2 => k_is)
    (case u_m3 => k_is)
    (case u_l3 => k_is)
    (case u_q3 => k_is)
    (case u_k3 => k_is)
    (case u_i3 => k_is)
    (case u_rb => kernel_rfl)
    (case u_sb => kernel_rfl)
