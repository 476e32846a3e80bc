import PyProof.Rows.All
import Wide.All
import OpenK.AllK
import Wide.FinOn
import KE.KExcInit
import KE.KExcTry
import KE.KExcStr
import KE.KExcIs
import KE.RegKIsAll
import KE.KExcSuper
import KE.KEqDeep
import HandS.ExcInit
import HandS.ExcField
import HandS.Defaults
import HandS.IsInst
import HandS.Words
import KE.KIsAll
import HandS.Ends
import HandS.More
import HandS.Head0
import HandS.Head1
import HandS.Head2
import HandS.HeadEnd
import HandS.HeadHook4
import HandS.New
import HandS.Comp
import HandS.Wide
import HandS.Style
import HandS.NoneIn
import HandS.Property
import HandS.Star
import HandS.Evl
import HandS.Text
import HandS.WideBits
import PySem.Challenge.RW_arrowtrios_k01_constants_and_errors
set_option Elab.async false
set_option linter.all false
set_option maxRecDepth 100000
set_option maxHeartbeats 0
namespace ErrKw
open PySem PySem.W PySem.Calls PyProof.Rows PySem.PX
/-- what is laid by the class's __new__: no args, and the exception itself -/
abbrev bare (C t : Addr) : Obj := excObj C t none .none
section
variable {w : World} {A : Around} {prog : Program}
variable {R : Result → Shared → Prop} {h : Heap} {g : Array GenState} {d : Drawn} {t : Nat} {os : OsState}
variable {nm q : Str} {C N : Addr} {bs bm tail : List Value} {hasD : Bool} {sn : List Str} {sub : List Value} {ab : Bool} {col : Option Bool} {dd : Option Addr} {k0 k1 k2 k3 k5 : Option Value} {B newId initId : String} {kws : List (Str × Value)}
theorem says (e : ∀ X : String, bm.contains (.type X) = tail.contains (.type X)) (X : String) {b : Bool} (i : tail.contains (.type X) = b) : (Value.ref C :: bm).contains (.type X) = b := by
  show ((Value.type X == Value.ref C) || bm.contains (.type X)) = b
  rw [e X, i]
  cases b <;> rfl
theorem look (F : ExcBaseFacts B newId initId tail) (e : ∀ X : String, bm.contains (.type X) = tail.contains (.type X)) (at_ : h.get? C = some (excClassObj nm q C N bs bm hasD sn sub ab col dd k0 k1 k2 k3 k5 newId))
    {Q : Unit → Shared → Prop} {E : Value → Shared → Prop} {M : Model} (go : Q () ⟨h, g, d, t, os⟩) : wpAny M A (checkBuiltinCall newId ⟨[.ref C], kws⟩) Q E ⟨h, g, d, t, os⟩ := by
  have s1 := says (C := C) e B F.hasB
  have s2 := F.noStar
  unfold checkBuiltinCall
  rw [F.newKind, F.newSplit, F.newRow]
  repeat' first
    | exact go
    | with_reducible refine wpAny_loadPart_at at_ ?_
    | (with_reducible refine wpAny_isSubtype_exc at_ ?_; rw [s1])
    | with_reducible refine wpAny_staticBase_exc at_ ?_
    | with_reducible refine wpAny_madeBy_exc at_ ?_
    | wp_step
    | simp only [bne_self_eq_false, Bool.false_eq_true, if_false]
theorem lays (F : ExcBaseFacts B newId initId tail) (e : ∀ X : String, bm.contains (.type X) = tail.contains (.type X)) (at_ : h.get? C = some (excClassObj nm q C N bs bm hasD sn sub ab col dd k0 k1 k2 k3 k5 newId))
    (go : R (.ok (.ret (.ref (h.objs.size + 1)))) ⟨(h.push (excTup [])).push (bare C h.objs.size), g, d, t, os⟩) : codeAny (model prog w) A (.builtin newId ⟨[.ref C], kws⟩) R ⟨h, g, d, t, os⟩ := by
  have s0 := F.ends
  have s1 := says (C := C) e B F.hasB
  have s2 := says (C := C) e "AttributeError" F.noAttr
  have s3 := says (C := C) e "NameError" F.noName
  refine codeAny_builtinAt F.entry (PySem.wpAt_bind ?_)
  show PySem.wpAt _ _ _ (stack >>= _) _ _ _
  refine PySem.wpAt_bind (PySem.wpAt_stack fun _ _ => PySem.wpAt_of_wpAny ?_)
  wp_walk
  rw [F.owner]
  refine PySem.wpAt_of_wpAny ?_
  repeat' first
    | with_reducible refine wpAny_madeHere_exc F.canon at_ ?_
    | with_reducible refine wpAny_loadPart_at at_ ?_
    | (with_reducible refine wpAny_isSubtype_exc at_ ?_; first | rw [s1] | rw [s2] | rw [s3])
    | wp_step
  show R _ ⟨_, _, _, _, _⟩
  rw [Heap.size_push]
  exact go
/-- type.__call__ of it -/
theorem made (F : ExcBaseFacts B newId initId tail) (e : ∀ X : String, bm.contains (.type X) = tail.contains (.type X)) (at_ : h.get? C = some (excClassObj nm q C N bs bm hasD sn sub ab col dd k0 k1 k2 k3 k5 newId)) {fI : Addr} {Q : Fin → Shared → Prop} {E : Value → Shared → Prop}
    (own : Looks (model prog w) h (typeLookup (.ref C) "__init__") (some (.ref fI))) (bnd : ∀ x, Looks (model prog w) h (bindSpecial (.ref fI) x) (.ref fI, [x]))
    (go : codeAny (model prog w) A (.call (.ref fI) ⟨[.ref (h.objs.size + 1)], kws⟩) (InitBack (h.objs.size + 1) fun r s' => match r with | .ok f => Q (.done f) s' | .error x => E x s') ⟨(h.push (excTup [])).push (bare C h.objs.size), g, d, t, os⟩) :
    wpAny (model prog w) A (Builtin.«type.__call__» ⟨[.ref C], kws⟩) Q E ⟨h, g, d, t, os⟩ := by
  repeat' first
    | with_reducible refine wpAny_loadPart_at at_ ?_
    | with_reducible refine wpAny_madeBy_exc at_ ?_
    | wp_step
  refine codeAny_call_builtin_code (Code.quiet_builtin _ F.quiet) (look F e at_ (lays F e at_ ?_))
  show wpAny _ _ _ _ _ ⟨_, _, _, _, _⟩
  generalize hh : (h.push (excTup [])).push (bare C h.objs.size) = h2 at go ⊢
  have keep : ∀ b o, h.get? b = some o → h2.get? b = some o := fun b o z => by rw [← hh]; exact Heap.get?_push_of_some _ (Heap.get?_push_of_some _ z)
  have new : h2.get? (h.objs.size + 1) = some (bare C h.objs.size) := by rw [← hh]; heap_get
  have c2 := keep _ _ at_
  have me : (Value.ref C :: bm).contains (.ref C) = true := by simp
  unfold isInstance
  repeat' first
    | with_reducible refine wpAny_loadPart_at new ?_
    | (with_reducible refine wpAny_isSubtype_exc c2 ?_; rw [me])
    | wp_step
  show wpAny _ _ (typeLookup (.ref C) "__init__") _ _ _
  refine (own.keeps keep).at (wpAny_holding (wpAny_bind (((bnd _).keeps keep).at (wpAny_bind (wpAny_call (codeAny_mono go fun r s' z => ?_))))))
  match r, z with
  | .error _, z => exact z
  | .ok (.ret v), z =>
    obtain ⟨rfl, z⟩ := z
    wp_walk
    exact z
/-- C(k = v, ..) -/
theorem called (F : ExcBaseFacts B newId initId tail) (e : ∀ X : String, bm.contains (.type X) = tail.contains (.type X)) (at_ : h.get? C = some (excClassObj nm q C N bs bm hasD sn sub ab col dd k0 k1 k2 k3 k5 newId)) {fI : Addr}
    (own : Looks (model prog w) h (typeLookup (.ref C) "__init__") (some (.ref fI))) (bnd : ∀ x, Looks (model prog w) h (bindSpecial (.ref fI) x) (.ref fI, [x]))
    (go : codeAny (model prog w) (A.under (.builtin "type.__call__" ⟨[.ref C], kws⟩)) (.call (.ref fI) ⟨[.ref (h.objs.size + 1)], kws⟩) (InitBack (h.objs.size + 1) R) ⟨(h.push (excTup [])).push (bare C h.objs.size), g, d, t, os⟩) :
    codeAny (model prog w) A (.call (.ref C) ⟨[], kws⟩) R ⟨h, g, d, t, os⟩ := by
  have l1 := tc_lookup
  have l2 := tc_bind (.ref C)
  have l3 := tc_sub
  have ty : (⟨h, g, d, t, os⟩ : Shared).TypeIs (.ref C) "type" := ⟨_, at_, rfl⟩
  refine codeAny_of_tree (show wpAny _ _ (callAny (.ref C) _) _ _ _ from ?_)
  repeat' first
    | assumption
    | with_reducible refine wpAny_loadPart_at at_ ?_
    | wp_step
  refine ⟨rfl, codeAny_call_builtin_at (Code.quiet_builtin _ (by decide +kernel)) entry_typeCall (check_slot tc_kind tc_split ?_ (tc_args _ _ _) (made F e at_ own bnd (codeAny_mono go fun r s' z => ?_)))⟩
  · intro A1 Q1 E1 s1 k1 go1
    obtain ⟨h1, _, _, _, _⟩ := s1
    have c1 : h1.get? C = _ := k1 _ _ at_
    have ty1 := c1
    unfold isInstance
    repeat' first
      | assumption
      | with_reducible refine wpAny_loadPart_at c1 ?_
      | wp_step
  · match r, z with
    | .error _, z => exact z
    | .ok (.ret _), z => exact z
variable {L : Addr} {h₀ : Heap} {m : Str → Option Value} {news : List (Addr × Obj)} {s : Shared} {K : Frag} {E : Value → Shared → Prop}
/-- the same, as the walk wants it: own class, own __init__, keywords alone -/
theorem call_ {fI : Addr} {Q : Value → Shared → Prop} (F : Fr h₀ L s.heap m) (X₀ : K.In h₀) (N' : News h₀ L s.heap news) (FB : ExcBaseFacts B newId initId tail) (own : findIn K (.ref C) "__init__" = some (some (.ref fI)))
    (is : excInitIn K C tail newId = true) (fn : isFn K (.ref fI) = true)
    (go : ∀ e t h', Fr h₀ L h' m → News h₀ L h' ((e, bare C t) :: (t, excTup []) :: news) → AllNe e news → AllNe t news → e ≠ t →
      codeAny (model prog w) (A.under (.builtin "type.__call__" ⟨[.ref C], kws⟩)) (.call (.ref fI) ⟨[.ref e], kws⟩) (InitBack e fun r s' => match r with | .ok (.ret v) => Q v s' | .ok _ => False | .error x => E x s') { s with heap := h' }) :
    wpAny (model prog w) A (call (.ref C) [] kws) Q E s := by
  have X := X₀.keeps F.keep
  obtain ⟨_, _, _, _, _, _, _, _, _, _, _, _, _, _, _, _, q⟩ := excInit_of X is
  obtain ⟨at_, e⟩ := q
  obtain ⟨oI, i1, i2⟩ := Option.map_eq_some_iff.mp (beq_iff_eq.mp (show (K.lookup fI).map (·.cls) == some (.type "function") from fn))
  obtain ⟨F2, N2, n1, n2⟩ := exc_two (o1 := excTup []) (o2 := bare C s.heap.objs.size) F N' rfl rfl
  have own' : Looks (model prog w) s.heap (typeLookup (.ref C) "__init__") (some (.ref fI)) := looks_findIn X own
  obtain ⟨hh, _, _, _, _⟩ := s
  exact wpAny_call (called FB e at_ own' (fun x => exc_bind (X _ _ i1) i2 x) (go _ _ _ F2 N2 n1 n2 (Nat.succ_ne_self _)))
end
end ErrKw

namespace EX
open L2 PyProof.Rows PySem.Spec PySem
/-- what the head tells of an own class of errors over a built-in one -/
structure XC (K : PySem.W.Frag) (C : Addr) (newId : String) (tail : List Value) : Prop where
  is : PySem.W.excInitIn K C tail newId = true
  over : PySem.W.excOver K C tail = true
  sa : PySem.W.findIn K (.ref C) "__setattr__" =
    some (some (.builtin "object.__setattr__"))
  rd : XfC K C
  keep : PySem.W.keepIn K (.ref C) = true
def xcB (K : PySem.W.Frag) (C : Addr) (newId : String) (tail : List Value) : Bool :=
  PySem.W.excInitIn K C tail newId && (PySem.W.excOver K C tail && (decide (PySem.W.findIn K (.ref C) "__setattr__" = some (some (.builtin "object.__setattr__"))) && (xfB K C && PySem.W.keepIn K (.ref C))))
theorem xcB_ok {K : PySem.W.Frag} {C : Addr} {newId : String} {tail : List Value} (h : xcB K C newId tail = true) : XC K C newId tail := by
  unfold xcB at h
  simp only [decide_eq_true_eq, Bool.and_eq_true] at h
  obtain ⟨a, b, c, d, e⟩ := h
  exact ⟨a, b, c, xfB_ok d, e⟩
section
variable {X : Cx} {pins : List (Addr × Obj)} {σ : L2.St} {H : Hp} {s : Shared} {a C : Addr} {f : Str} {y : V} {u : Value} {Q : Unit → Shared → Prop} {E : Value → Shared → Prop} {A : Around} {B newId : String} {tail : List Value}
/-- self.f = y, where self is new -/
theorem first (SF : StoreFacts B tail "object.__setattr__" "object") (T : XC X.K C newId tail) (tk : PySem.W.takerIn X.K C f = some none) (I : Inv X pins σ H s) (e : H a = some (exo a C none)) (ry : RelV y u)
    (go : ∀ dx s', H dx = none → dx ≠ a → Inv X pins σ (upd (upd H dx (exd dx [(f, y)])) a (exo a C (some dx))) s' → Q () s') : wpAny (model X.prog X.w) A (setAttr (.ref a) f u) Q E s := by
  obtain ⟨t1, at_⟩ := exo_at I.hok e
  refine PySem.W.set_plain (od := none) I.kIn ⟨at_, rfl, rfl, trivial⟩ T.sa (PySem.W.osa_openX (od := none) SF I.kIn ⟨at_, rfl, rfl, trivial⟩ T.over tk fun b => ?_)
  obtain ⟨cd, c1, c2⟩ := PySem.W.any_some T.rd.hdC
  obtain ⟨hp, g, d, t, os⟩ := s
  refine wpAny_bind (wpAny_pure (wpAny_bind (PySem.W.instanceDict_exc at_ (PySem.W.looks_clsIn I.kIn c1) c2 ?_)))
  show wpAny _ _ (Builtin.ObjectAttr.storeInDict hp.objs.size (.str f _) f u) _ _ _
  have la : a < hp.objs.size := Heap.lt_size at_
  have p1 : (hp.push (PySem.W.dictOf [] 0)).get? hp.objs.size = some (PySem.W.dictOf [] 0) := Heap.get?_push_size _ rfl
  refine HandSPX.store_in_new ⟨_, #[], 0, Heap.get?_update_of_ne _ (Nat.ne_of_lt la) p1, rfl, fun _ z => absurd z (by simp), fun _ => rfl⟩ fun h' tk' n1 sb => ?_
  -- as if the dict had been laid as it is in the end, and then the exception written
  obtain ⟨oD, eD⟩ : ∃ oD, h'.get? hp.objs.size = some oD := by
    obtain ⟨o, _, _, z, _⟩ := n1
    exact ⟨o, z⟩
  have alive : oD.isFreed = false := (Heap.get?_some_iff.mp eD).2
  have i1 : (hp.push oD).get? hp.objs.size = some oD := Heap.get?_push_size _ alive
  have rest : ∀ b, b ≠ a → b ≠ hp.objs.size → h'.get? b = hp.get? b := fun b n1 n2 =>
    (sb.2 b n2).trans ((Heap.get?_update_ne _ _ _ _ n1).trans (Heap.get?_push_ne _ _ _ n2))
  have J := I.laid (t' := t) (a := hp.objs.size) (o := exd hp.objs.size [(f, y)]) (h' := hp.push oD) (fun b o z => Heap.get?_push_of_some _ z) (Nat.le_refl _)
    (exd_ok (n1.at fun o z => by rw [i1, ← z, eD]) (relO_put (fs := []) ry fun _ => True.intro))
  have ea : upd H hp.objs.size (exd hp.objs.size [(f, y)]) a = some (exo a C none) := (upd_ne (Nat.ne_of_lt la)).trans e
  have new : h'.get? a = some ({ cls := .ref C, dict := some hp.objs.size, data := .fields #[.ref t1, .none, .none, .none, .bool false, .none] } : Obj) :=
    (sb.2 a (Nat.ne_of_lt la)).trans (Heap.get?_update_self _ (Heap.get?_push_of_some _ at_) rfl)
  have J2 := J.write (t' := tk') (x := a) (e := a) (o := exo a C (some hp.objs.size)) (h' := h') (by rw [ea]; exact True.intro) (.inl rfl)
    (fun b o n z => by
      rcases Heap.get?_push_cases z with ⟨rfl, rfl⟩ | z
      · exact eD
      · exact (rest b n (Nat.ne_of_lt (Heap.lt_size z))).trans z) ⟨_, new⟩ (exo_ok new)
  exact go _ _ (I.hok.fresh (Nat.le_refl _)) (Nat.ne_of_gt la) J2
/-- self.f = e of a new exception -/
def tFirst (K : PySem.W.Frag) (newId : String) (tail : List Value) (f : Str) (te to : TE) : TS := fun D σ H => te σ H fun y H1 => to σ H1 fun x H2 => ∃ a C, x = V.ref a ∧ XC K C newId tail ∧ PySem.W.takerIn K C f = some none ∧ H2 a = some (exo a C none) ∧
  ∀ dx, H2 dx = none → dx ≠ a → D.nx σ (upd (upd H2 dx (exd dx [(f, y)])) a (exo a C (some dx)))
theorem ps_first {e o : Expr} {te to : TE} {q pos : Pos} (SF : StoreFacts B tail "object.__setattr__" "object") (he : PE X e te) (ho : PE X o to) (sw : swapsWith e (some (.Attribute o f q)) pos.line X.env = pure false := by rfl) :
    PS X (.Assign [.Attribute o f q] e pos) (tFirst X.K newId tail f te to) where
  run := by
    intro pins s σ H D I h
    refine plainObj_wpAny_Assign_Attribute (thn (he.run pins s σ H _ I h) fun v s1 hv => ?_) sw
    obtain ⟨y, H1, I1, ry, h1⟩ := hv
    refine thn (ho.run pins s1 σ H1 _ I1 h1) fun v2 s2 hv2 => ?_
    obtain ⟨_, H2, I2, rx, a, C, rfl, T, tk, e2, h2⟩ := hv2
    cases rx
    exact first SF T tk I2 e2 ry fun dx s3 n1 n2 J => ⟨σ, _, J, h2 dx n1 n2⟩
/-- what an __init__ that keeps one argument promises -/
def spIni (K : PySem.W.Frag) (newId : String) (tail : List Value) (f : Str) : Sp := fun vs H Q _ => ∃ a C v, vs = [V.ref a, v] ∧ XC K C newId tail ∧ PySem.W.takerIn K C f = some none ∧ H a = some (exo a C none) ∧
  ∀ dx, H dx = none → dx ≠ a → Q .non (upd (upd H dx (exd dx [(f, v)])) a (exo a C (some dx)))
end
section
variable {P : Program} {w : World} {K : PySem.W.Frag} {mg : Str → Option Value} {base : Heap} {B newId : String} {tail : List Value}
theorem ini {st : Stmt} {q x f : Str} {p1 p2 p3 p4 : Pos} {fI : Addr} {fd : FuncData} (sc : FnScope ["self", x] ["self", x] (defScope st)) (v1 : Vis (defScope st) "self") (v2 : Vis (defScope st) x) (d1 : (x == ("__debug__" : Str)) = false) (d2 : (x == ("__classdict__" : Str)) = false)
    (hb : defBody st = [.Assign [.Attribute (.Name "self" p1) f p2] (.Name x p3) p4]) (F : FunD K "__init__" q (defArgs st) (defBody st) (defScope st) [] [] fI fd) (SF : StoreFacts B tail "object.__setattr__" "object") :
    FnOk P w K mg base CX0 1 fI fd ["self", x] (spIni K newId tail f) := by
  refine F.ok sc (fun vs H Q E h => ?_) fun cdv A outer s H vs Q E hr h => ⟨tFirst K newId tail f (tVar 1) (tVar 0), ?_, ?_⟩
  · obtain ⟨_, _, _, rfl, _⟩ := h
    rfl
  · rw [hb]
    exact PSs.nox (pss_one (ps_first SF (pv 1 rfl v2 d1 d2) (pv 0 rfl v1)))
  · obtain ⟨a, C, v, rfl, T, tk, e, go⟩ := h
    exact ⟨v, rfl, .ref a, rfl, a, C, rfl, T, tk, e, go⟩
end
/-! ### C(..): laid, then its __init__ -/
section
variable {X : Cx} {pins : List (Addr × Obj)} {σ : L2.St} {B newId initId : String} {tail : List Value} {C fI : Addr} {k : Nat} {fd : FuncData} {ps : List Str} {sp : Sp}
/-- what is asked of the arguments vs -/
def rNew (C : Addr) (sp : Sp) : List V → Hp → VK → Prop := fun vs H Q => ∀ a, H a = none → sp (.ref a :: vs) (upd H a (exo a C none)) (fun v H2 => v = .non ∧ Q (.ref a) H2) fun _ _ _ => False
theorem inside {H : Hp} {Q : VK} {us ws : List Value} {vs : List V} {kws : List (Str × Value)} {hp : Heap} {g : Array GenState} {d : Drawn} {t : Nat} {os : OsState} {args : List Value} (F : FnOk X.prog X.w X.K X.mg X.base CX0 k fI fd ps sp) (hr : Room (k + 1) X.A)
    (bt : ∀ (s : Shared) (e : Value), X.K.In s.heap → BindsTo s fd ⟨e :: us, kws⟩ (ps.zip (e :: ws))) (I : Inv X pins σ H ⟨hp, g, d, t, os⟩) (r : Vals vs ws) (q : rNew C sp vs H Q) :
    codeAny (model X.prog X.w) (X.A.under (.builtin "type.__call__" ⟨.ref C :: us, kws⟩)) (.call (.ref fI) ⟨.ref (hp.objs.size + 1) :: us, kws⟩)
      (PySem.W.InitBack (hp.objs.size + 1) fun r s' => match r with | .ok (.ret v) => EP X pins σ Q v s' | .ok _ => False | .error x => X.xe x s') ⟨(hp.push (PySem.W.excTup args)).push (PySem.W.excObj C hp.objs.size none .none), g, d, t, os⟩ := by
  have up : hp.objs.size ≤ hp.objs.size + 1 := Nat.le_succ _
  have at_ : ((hp.push (PySem.W.excTup args)).push (PySem.W.excObj C hp.objs.size none .none)).get? (hp.objs.size + 1) = some (PySem.W.excObj C hp.objs.size none .none) := by heap_get
  have J := I.laid (t' := t) (a := hp.objs.size + 1) (o := exo (hp.objs.size + 1) C none) (h' := (hp.push (PySem.W.excTup args)).push (PySem.W.excObj C hp.objs.size none .none))
    (fun b o z => Heap.get?_push_of_some _ (Heap.get?_push_of_some _ z)) up (exo_ok at_)
  have rr : Vals (V.ref (hp.objs.size + 1) :: vs) (Value.ref (hp.objs.size + 1) :: ws) := .cons rfl r
  refine codeAny_mono (F.run _ X.stack _ _ _ _ _ _ _ (hr.make C us kws) (J.env0.make C us kws) (bt _ _ J.kIn) rr (q _ (I.hok.fresh up))) fun res s' z => ?_
  match res, z with
  | .ok (.ret u), z =>
    obtain ⟨v, H2, J2, rv, rfl, q2⟩ := J.after z
    cases rv
    exact ⟨rfl, .ref _, H2, J2, rfl, q2⟩
variable {e : Expr} {es : List Expr} {kws : List Keyword} {x : Str} {ta : TA} {p pos : Pos}
/-- C(e, ..) -/
theorem pe_new (FB : ExcBaseFacts B newId initId tail) (T : XC X.K C newId tail) (iC : PySem.W.findIn X.K (.ref C) "__init__" = some (some (.ref fI))) (tI : PySem.W.typeIn X.K (.ref fI) = some (.type "function")) (F : FnOk X.prog X.w X.K X.mg X.base CX0 k fI fd ps sp) (hr : Room (k + 1) X.A)
    (hb : Binds X.K fd ps []) (hg : Gl X x) (hm : X.mg x = some (.ref C)) (ha : PA X (e :: es) ta) (hd : (x == ("__debug__" : Str)) = false := by decide)
    (hpl : (backTo pos (starEach es X.env)).any (·.1) = false := by rfl) (he : starEach (e :: es) X.env = (false, eval e X.env) :: starEach es X.env := by rfl) :
    PE X (.Call (.Name x p) (e :: es) [] pos) (fun σ H Q => ta σ H (fun vs H1 => vs.length ≤ 1000 ∧ rNew C sp vs H1 Q)) where
  run := by
    intro pins s σ H Q I h
    refine wpAny_Call_Name_kw (ld_glob I hg hm (PySem.W.callWith_K (h₀ := X.base) I.ok.mod.kin T.keep (thn (ha.run pos pins s σ H _ I h) fun us s1 z => ?_) he hpl) hd)
    obtain ⟨vs, H1, J, r, l, q⟩ := z
    refine ⟨J.kIn, ?_⟩
    obtain ⟨_, _, _, _, _, _, _, _, _, _, _, _, _, _, _, _, c1, c2⟩ := PySem.W.excInit_of J.kIn T.is
    obtain ⟨hp, _, _, _, _⟩ := s1
    have small : us.length ≤ sizeLine := by rw [← r.length, sizeLine_eq]; omega
    have full : ∀ a : Addr, H1 a = none → vs.length + 1 = ps.length := fun a na => F.len _ _ _ _ (q a na)
    have fresh : H1 hp.objs.size = none := J.hok.fresh (Nat.le_refl _)
    refine wpAny_call (codeAny_mono (PySem.PX.call_own FB c2 c1 (PySem.W.looks_findIn J.kIn iC) (fun self => PySem.W.bind_fn J.kIn self tI) small (inside F hr (ws := us) (fun s2 e2 k2 => ?_) J r q)) fun res s2 z => ?_)
    · have := hb s2 (e2 :: us) k2 (by rw [List.append_nil, List.length_cons, ← r.length]; exact full _ fresh)
      rw [List.append_nil] at this
      exact this
    · exact z
/-- C(k = e) -/
theorem pe_newK {y : Str} {tk : TA} (FB : ExcBaseFacts B newId initId tail) (T : XC X.K C newId tail) (iC : PySem.W.findIn X.K (.ref C) "__init__" = some (some (.ref fI))) (tI : PySem.W.typeIn X.K (.ref fI) = some (.type "function")) (F : FnOk X.prog X.w X.K X.mg X.base CX0 k fI fd ps sp) (hr : Room (k + 1) X.A)
    (bk : ∀ (s : Shared) (e w : Value), BindsTo s fd ⟨[e], [(y, w)]⟩ (ps.zip [e, w])) (hg : Gl X x) (hm : X.mg x = some (.ref C)) (hk : PK X kws tk) (hd : (x == ("__debug__" : Str)) = false := by decide)
    (h1 : (backToKw pos (keywordEach kws X.env)).all (·.1.isSome) = true := by rfl) (h2 : (backToKw pos (keywordEach kws X.env)).filterMap (·.1) = [y] := by rfl)
    (h3 : ((backTo pos (starEach [] X.env)).any (·.1) || (backToKw pos (keywordEach kws X.env)).any (·.1.isNone)) = false := by rfl) :
    PE X (.Call (.Name x p) [] kws pos) (fun σ H Q => tk σ H (fun vs H1 => vs.length = 1 ∧ rNew C sp vs H1 Q)) where
  run := by
    intro pins s σ H Q I h
    refine wpAny_Call_Name_kw (ld_glob I hg hm (PySem.W.callWith_KW0 (h₀ := X.base) I.ok.mod.kin T.keep h1 (thn (hk.run pos pins s σ H _ I h) fun us s1 z => ?_) h3) hd)
    obtain ⟨vs, H1, J, r, l, q⟩ := z
    refine ⟨J.kIn, ?_⟩
    rw [h2]
    obtain ⟨_, _, _, _, _, _, _, _, _, _, _, _, _, _, _, _, c1, c2⟩ := PySem.W.excInit_of J.kIn T.is
    obtain ⟨hp, _, _, _, _⟩ := s1
    obtain ⟨u, rfl⟩ : ∃ u, us = [u] := by
      have n : us.length = 1 := r.length.symm.trans l
      match us, n with
      | [u], _ => exact ⟨u, rfl⟩
    exact wpAny_call (codeAny_mono (ErrKw.called FB c2 c1 (PySem.W.looks_findIn J.kIn iC) (fun self => PySem.W.bind_fn J.kIn self tI) (inside F hr (ws := [u]) (us := []) (fun s2 e2 _ => bk s2 e2 u) J r q)) fun res s2 z => z)
/-- C() -/
theorem pe_new0 (FB : ExcBaseFacts B newId initId tail) (T : XC X.K C newId tail) (iC : PySem.W.findIn X.K (.ref C) "__init__" = some (some (.ref fI))) (tI : PySem.W.typeIn X.K (.ref fI) = some (.type "function")) (F : FnOk X.prog X.w X.K X.mg X.base CX0 k fI fd ["self"] sp) (hr : Room (k + 1) X.A)
    (hb : Binds X.K fd ["self"] []) (hg : Gl X x) (hm : X.mg x = some (.ref C)) (hd : (x == ("__debug__" : Str)) = false := by decide) :
    PE X (.Call (.Name x p) [] [] pos) (fun _ H Q => rNew C sp [] H Q) where
  run := by
    intro pins s σ H Q J q
    refine wpAny_Call_Name_kw (ld_glob J hg hm (PySem.W.callWith_K0 J.kIn T.keep ?_) hd)
    obtain ⟨_, _, _, _, _, _, _, _, _, _, _, _, _, _, _, _, c1, c2⟩ := PySem.W.excInit_of J.kIn T.is
    obtain ⟨hp, _, _, _, _⟩ := s
    refine wpAny_call (codeAny_mono (PySem.PX.call_own FB c2 c1 (PySem.W.looks_findIn J.kIn iC) (fun self => PySem.W.bind_fn J.kIn self tI) (Nat.zero_le _) (inside F hr (ws := []) (us := []) (fun s2 e2 k2 => ?_) J .nil q)) fun res s2 z => z)
    exact hb s2 [e2] k2 rfl
/-! ### Base.__init__(self) -/
def rUp (K : PySem.W.Frag) (newId : String) (tail : List Value) : List V → Hp → VK → Prop := fun vs H Q => ∃ a C, vs = [V.ref a] ∧ XC K C newId tail ∧ H a = some (exo a C none) ∧ Q .non H
def spUp (K : PySem.W.Frag) (newId : String) (tail : List Value) : Sp := fun vs H Q _ => rUp K newId tail vs H Q
theorem call_up (FB : ExcBaseFacts B newId initId tail) : CallR X (.builtin initId) (rUp X.K newId tail) := by
  intro pins s σ H
  intro xs us Q I r q
  obtain ⟨a, C, rfl, T, e, q⟩ := q
  obtain ⟨_, _, _, _, _, _, _, _, _, _, _, _, _, _, _, _, c1, c2⟩ := PySem.W.excInit_of I.kIn T.is
  obtain ⟨t1, at_⟩ := exo_at I.hok e
  match us, r with
  | [_], .cons rfl .nil =>
    obtain ⟨hp, g, d, t, os⟩ := s
    refine wpAny_call (PySem.PX.init_base FB c2 c1 at_ (Nat.zero_le _) fun h' t2 keep new => ?_)
    have J := I.write (t' := t) (x := a) (e := a) (o := exo a C none) (h' := h') (by rw [e]; exact True.intro) (.inl rfl) keep ⟨_, new⟩ (exo_ok new)
    have same : upd H a (exo a C none) = H := by
      funext b
      unfold upd
      split
      · next z => rw [z, e]
      · rfl
    rw [same] at J
    exact ⟨.non, H, J, rfl, q⟩
/-- what the head tells of a class whose __init__ is called off it -/
def offB (K : PySem.W.Frag) (C f : Addr) : Bool := decide (PySem.W.specialIn K (.ref C) "__getattribute__" = some (some (.builtin "type.__getattribute__"))) && (PySem.W.readsIn K C (.type "type") && ((match PySem.W.findCls K (.ref C) (.type "type") "__init__" with | some (.val (.ref g)) => decide (g = f) | _ => false) && (PySem.W.handedIn (.ref f) && PySem.W.keepIn K (.ref f))))
theorem pe_off {CX : CXT} {p1 p2 p3 p4 : Pos} (o : offB X.K C fI = true) (F : FnOk X.prog X.w X.K X.mg X.base CX k fI fd ps sp) (hr : Room k X.A) (hb : Binds X.K fd ps [])
    (hx : Passes CX X fun _ _ _ => False) (hg : Gl X "NoAnswer") (hm : X.mg "NoAnswer" = some (.ref C)) (ha : PA X [.Name "self" p4] ta) {pl : Sem Bool}
    (hc : eval (.Call (.Attribute (.Name "NoAnswer" p1) "__init__" p2) [.Name "self" p4] [] p3) X.env = do { let ov ← eval (.Name "NoAnswer" p1) X.env; standAt p2.atName; let (f, first) ← holding [ov] (getMethod ov "__init__" pl); callWith p3 f first (backTo p3 (starEach [.Name "self" p4] X.env)) (backToKw p3 (keywordEach [] X.env)) } := by rfl)
    (he : starEach [.Name "self" p4] X.env = (false, eval (.Name "self" p4) X.env) :: starEach [] X.env := by rfl) :
    PE X (.Call (.Attribute (.Name "NoAnswer" p1) "__init__" p2) [.Name "self" p4] [] p3) (fun σ H Q => ta σ H (fun vs H1 => sp vs H1 Q (fun _ _ _ => False))) where
  run := by
    intro pins s σ H Q I h
    unfold offB at o
    simp only [decide_eq_true_eq, Bool.and_eq_true] at o
    obtain ⟨o1, o2, o3, o4, o5⟩ := o
    have o3 : PySem.W.findCls X.K (.ref C) (.type "type") "__init__" = some (.val (.ref fI)) := by
      split at o3
      · next e => rw [e, of_decide_eq_true o3]
      · cases o3
    refine PySem.W.methodCall_KW (ld_glob I hg hm (PySem.W.method_cls I.kIn o1 (PySem.W.cls_value I.kIn o2 o3 o4 ?_))) hc
    have J := I.tok (s.toks + 1)
    refine PySem.W.callWith_K (first := []) (h₀ := X.base) I.ok.mod.kin o5 (thn (ha.run _ pins _ σ H _ J h) fun us s1 z => ?_) he
    obtain ⟨vs, H1, J1, r, q⟩ := z
    exact ⟨J1.kIn, run_fn F hr hb .nil hx J1 r (by rw [List.append_nil]; exact q)⟩
/-! ### reading, asking -/
/-- a.f of such a one -/
def tFld (K : PySem.W.Frag) (f : Str) (te : TE) : TE := fun σ H Q => te σ H fun x H1 => ∃ a C dx fs v, x = V.ref a ∧ XfC K C ∧ PySem.W.findIn K (.ref C) f = some none ∧ H1 a = some (exo a C (some dx)) ∧ H1 dx = some (exd dx fs) ∧ fs.lookup f = some v ∧ Q v H1
theorem pe_fld {te : TE} {f : Str} (he : PE X e te) (hb : attributeBase e f X.env (eval e X.env) = eval e X.env := by rfl) : PE X (.Attribute e f pos) (tFld X.K f te) where
  run := by
    intro pins s σ H Q I h
    refine attr_of hb (thn (he.run pins s σ H _ I h) fun u s1 z => ?_)
    obtain ⟨_, H1, J, r, a, C, dx, fs, v, rfl, T, no, e1, e2, l, q⟩ := z
    cases r
    obtain ⟨t1, at_⟩ := exo_at J.hok e1
    obtain ⟨mA, n1, rel⟩ := exd_at J.hok e2
    obtain ⟨od, i1, i2⟩ := lookIn_ns n1
    obtain ⟨w, w1, w2⟩ := RelO.some_of (v := v) (o := mA f) (by rw [← l]; exact rel f)
    exact HandSPX.exc_get (od := some od) J.kIn ⟨at_, rfl, rfl, i1⟩ T.ga T.gg T.exC (PySem.W.findObj_own T.hdC no rfl (by rw [i2, w1])) (handed_of w2) ⟨v, H1, J.tok _, w2, q⟩
/-- what isinstance wants of the class -/
def isB (K : PySem.W.Frag) (C : Addr) : Bool := (PySem.W.clsIn K C).isSome && (decide (PySem.W.findIn K (.ref C) "__class__" = some (some (.builtin "object.__class__"))) && (decide (PySem.W.specialIn K (.builtin "object.__class__") "__get__" = some (some (.builtin "getset_descriptor.__get__"))) &&
  (decide (PySem.W.takesIn K (.builtin "object.__class__") = some true) && decide (PySem.W.mroIn K C (.type "object") = some true))))
/-- an error that stands in the heap, its dict too -/
def Err (H : Hp) (a C : Addr) : Prop := H a = some (exo a C none) ∨ ∃ dx fs, H a = some (exo a C (some dx)) ∧ H dx = some (exd dx fs)
def rIsE (K : PySem.W.Frag) : List V → Hp → VK → Prop := fun xs H Q => ∃ a C c u b, xs = [V.ref a, c] ∧ Err H a C ∧ XfC K C ∧ isB K C = true ∧ ClsV c u ∧ PySem.W.kitOne K (.ref C) u = some b ∧ Q (.bl b) H
theorem call_isE_ : CallR X (.builtin "isinstance") (rIsE X.K) := by
  intro pins s σ H
  intro xs us Q I r q
  obtain ⟨a, C, c, u, b, rfl, er, T, is, cl, k, q⟩ := q
  unfold isB at is
  simp only [Bool.and_eq_true, decide_eq_true_eq] at is
  obtain ⟨k1, k2, k3, k4, k5⟩ := is
  obtain ⟨ox, od, inst⟩ : ∃ ox od, PySem.W.InstAt s.heap a ox C od := by
    rcases er with e1 | ⟨dx, fs, e1, e2⟩
    · obtain ⟨t1, at_⟩ := exo_at I.hok e1
      exact ⟨_, none, at_, rfl, rfl, trivial⟩
    · obtain ⟨t1, at_⟩ := exo_at I.hok e1
      obtain ⟨mA, n1, _⟩ := exd_at I.hok e2
      obtain ⟨od, i1, _⟩ := lookIn_ns n1
      exact ⟨_, some od, at_, rfl, rfl, i1⟩
  match us, r with
  | [_, _], .cons rfl (.cons r2 .nil) =>
    cases cl.eq r2
    exact PySem.W.kia_one (PySem.W.kitx_exc k1 T.ga T.gg T.exC k2 k3 k4 k5) I.kIn inst k (fun z => nomatch z) fun tk => ⟨.bl b, H, I.tok tk, rfl, q⟩
/-- repr of a list (of lists ..) of plain values -/
def rRepr (K : PySem.W.Frag) : List V → Hp → VK → Prop := fun xs H Q => ∃ a d, xs = [V.ref a] ∧ Dp K H (.ref a) d ∧ d.showable = true ∧ d.hasDict = false ∧ d.depth ≤ 20 ∧ d.shown.length ≤ sizeLine ∧ Q (.str d.shown) H
theorem call_repr_ (hg : X.A.guards = some []) (hu : X.A.units + 64 < cLine) : CallR X (.builtin "repr") (rRepr X.K) := by
  intro pins s σ H
  intro xs us Q I r q
  obtain ⟨a, d, rfl, dp, sh, nd, dd, sz, q⟩ := q
  match us, r with
  | [_], .cons rfl .nil =>
    obtain ⟨as, rd⟩ := Dp.reads I d (.ref a) (.ref a) dp rfl
    exact repr_of_reads' rd sh (PyData.noDict_hsm nd) hg (by omega) (fun _ _ e => e) (fun h' u tk k => ⟨.str _, H, I.kept k, ⟨_, rfl⟩, q⟩) sz
end
end EX

namespace EX
open L2 PyProof.Rows PySem.Spec PySem
def top (i : Nat) : Stmt := PySem.Challenge.pw_arrowtrios_k01_constants_and_errors.main.body.getD i (.Pass ⟨0, 0, 0, 0⟩)
def dF (x : Str) (i : Nat) : He.DefD := ⟨(x, none), x, x, defArgs (top i), defBody (top i), defScope (top i), [], []⟩
def dI (c q : Str) (i : Nat) : He.DefD := ⟨(c, some "__init__"), "__init__", q, defArgs (inClass (top i) 0), defBody (inClass (top i) 0), defScope (inClass (top i) 0), [], []⟩
def VE : List Value := [.type "ValueError", .type "Exception", .type "BaseException", .type "object"]
def LE : List Value := [.type "LookupError", .type "Exception", .type "BaseException", .type "object"]
def AE : List Value := [.type "ArithmeticError", .type "Exception", .type "BaseException", .type "object"]
/-- an own error: its name, its built-in base, the field that it keeps -/
structure Own where
  nm : Str
  new : String
  tail : List Value
  fld : Str
def owns : List Own := [⟨"InvalidNumber", "ValueError.__new__", VE, "given"⟩,
  ⟨"InvalidNaming", "ValueError.__new__", VE, "given"⟩,
  ⟨"InvalidPlace", "ValueError.__new__", VE, "given"⟩,
  ⟨"InvalidName", "ValueError.__new__", VE, "given"⟩,
  ⟨"InvalidClaim", "ValueError.__new__", VE, "given"⟩,
  ⟨"InvalidIndex", "ValueError.__new__", VE, "given"⟩,
  ⟨"InvalidLine", "ValueError.__new__", VE, "given"⟩,
  ⟨"InvalidBound", "ValueError.__new__", VE, "given"⟩,
  ⟨"NotAStanding", "ValueError.__new__", VE, "given"⟩,
  ⟨"NotAWeb", "ValueError.__new__", VE, "given"⟩,
  ⟨"InvalidNumbers", "ValueError.__new__", VE, "index"⟩,
  ⟨"InvalidTurns", "ValueError.__new__", VE, "index"⟩,
  ⟨"InvalidRows", "ValueError.__new__", VE, "index"⟩,
  ⟨"InvalidRemainders", "ValueError.__new__", VE, "index"⟩,
  ⟨"InvalidDeeds", "ValueError.__new__", VE, "index"⟩,
  ⟨"UnknownName", "LookupError.__new__", LE, "given"⟩,
  ⟨"InUse", "LookupError.__new__", LE, "index"⟩,
  ⟨"TooGreat", "ArithmeticError.__new__", AE, "index"⟩,
  ⟨"TooMany", "ArithmeticError.__new__", AE, "limit"⟩,
  ⟨"NothingToUndo", "ArithmeticError.__new__", AE, ""⟩,
  ⟨"Broken", "ArithmeticError.__new__", AE, "index"⟩]
def cla (K : PySem.W.Frag) (c : Str) : Addr := He.ga K c
def ini_ (K : PySem.W.Frag) (c : Str) : Addr := He.ma K (He.ga K c) "__init__"
def hasI (K : PySem.W.Frag) (c : Str) : Bool := decide (PySem.W.findIn K (.ref (cla K c)) "__init__" = some (some (.ref (ini_ K c)))) && decide (PySem.W.typeIn K (.ref (ini_ K c)) = some (.type "function"))
def ownB (K : PySem.W.Frag) (o : Own) : Bool := xcB K (cla K o.nm) o.new o.tail && (hasI K o.nm && (isB K (cla K o.nm) && (decide (PySem.W.takerIn K (cla K o.nm) o.fld = some none) && decide (PySem.W.findIn K (.ref (cla K o.nm)) o.fld = some none))))
def kinB (K : PySem.W.Frag) (a : Str) (u : Value) (b : Bool) : Bool := decide (PySem.W.kitOne K (.ref (cla K a)) u = some b)
def row (K : PySem.W.Frag) (i : Nat) (o : Own) : Bool := ((owns.mapIdx fun j p => kinB K o.nm (.ref (cla K p.nm)) (decide (i = j))).all id) &&
  (kinB K o.nm (.ref (cla K "WrongValue")) (decide (i < 15)) && (kinB K o.nm (.ref (cla K "WrongName")) (decide (15 ≤ i) && decide (i < 17)) && (kinB K o.nm (.ref (cla K "NoAnswer")) (decide (17 ≤ i)) &&
  (kinB K o.nm (.type "ValueError") (decide (i < 15)) && (kinB K o.nm (.type "LookupError") (decide (15 ≤ i) && decide (i < 17)) && kinB K o.nm (.type "ArithmeticError") (decide (17 ≤ i)))))))
def ex (K : PySem.W.Frag) : Bool := owns.all (ownB K) && ((owns.mapIdx fun i o => row K i o).all id && offB K (cla K "NoAnswer") (ini_ K "NoAnswer"))
def fa : List He.Fa := ([.glo "_law_wrong_values", .glo "_law_kinds", .glo "_law_own", .glo "law", .glo "WrongValue", .glo "InvalidNumber", .glo "InvalidNaming", .glo "InvalidPlace", .glo "InvalidName", .glo "InvalidClaim", .glo "InvalidIndex", .glo "InvalidLine", .glo "InvalidBound", .glo "NotAStanding", .glo "NotAWeb", .glo "InvalidNumbers", .glo "InvalidTurns", .glo "InvalidRows", .glo "InvalidRemainders", .glo "InvalidDeeds", .glo "WrongName", .glo "UnknownName", .glo "InUse", .glo "NoAnswer", .glo "TooGreat"] : List He.Fa) ++ ([.glo "TooMany", .glo "NothingToUndo", .glo "Broken", .int "GREATEST" (10 ^ 300), .int "MOST_TIMES" (10 ^ 310), .int "MOST_PAIRS" (200), .int "MOST_LETTERS" (12), .int "MOST_REMAINDER" (12), .int "MOST_LISTED" (2000), .int "MOST_BOUND" (10 ^ 6), .int "MOST_PLACES" (5), .int "MOST_WEB" (10 ^ 30), .int "MOST_WEBS" (300), .int "MOST_TABLE" (10000), .free "range", .free "isinstance", .free "repr", .free "ValueError", .free "LookupError", .free "ArithmeticError"] : List He.Fa)
def fn : List He.DefD := ([dF "_law_wrong_values" 37, dF "_law_kinds" 38, dF "_law_own" 39, dF "law" 40, dI "InvalidNumber" "InvalidNumber.__init__" 2, dI "InvalidNaming" "InvalidNaming.__init__" 3, dI "InvalidPlace" "InvalidPlace.__init__" 4, dI "InvalidName" "InvalidName.__init__" 5, dI "InvalidClaim" "InvalidClaim.__init__" 6, dI "InvalidIndex" "InvalidIndex.__init__" 7, dI "InvalidLine" "InvalidLine.__init__" 8, dI "InvalidBound" "InvalidBound.__init__" 9, dI "NotAStanding" "NotAStanding.__init__" 10, dI "NotAWeb" "NotAWeb.__init__" 11, dI "InvalidNumbers" "InvalidNumbers.__init__" 12, dI "InvalidTurns" "InvalidTurns.__init__" 13, dI "InvalidRows" "InvalidRows.__init__" 14, dI "InvalidRemainders" "InvalidRemainders.__init__" 15, dI "InvalidDeeds" "InvalidDeeds.__init__" 16, dI "UnknownName" "UnknownName.__init__" 18] : List He.DefD) ++ ([dI "InUse" "InUse.__init__" 19, dI "TooGreat" "TooGreat.__init__" 21, dI "TooMany" "TooMany.__init__" 22, dI "NothingToUndo" "NothingToUndo.__init__" 23, dI "Broken" "Broken.__init__" 24, dI "NoAnswer" "NoAnswer.__init__" 20] : List He.DefD)
/-- what the names reach in n steps, and the statics, where readsIn looks -/
def part (n : Nat) (g : Addr → Option Obj) : PySem.W.Frag := He.frG g (He.asD g n ++ [cStatics])
def looks (n : Nat) (g : Addr → Option Obj) : He.AlD × Bool := (He.obsD fa fn (part n g), ex (part n g))
def hook (n : Nat) : PySem.W.Hook where
  α := He.AlD × Bool
  obs s := looks n s.heap.get?
  val _ := (He.valD fn, true)
  says _ h := ∃ K : PySem.W.Frag, K.In h ∧ He.SaysD fa fn K ∧ ex K = true
  of _ _ e := ⟨_, He.frG_in, congrArg Prod.fst e, congrArg Prod.snd e⟩
  keeps _ _ _ z k := let ⟨K, i, c⟩ := z; ⟨K, PySem.W.Frag.In.keeps i k, c⟩
structure Top (w : World) (K : PySem.W.Frag) (mg : Str → Option Value) : Prop where
  s : He.SaysD fa fn K
  e : EX.ex K = true
  x : ∃ h : Heap, K.In h ∧ h.Ns mainGlobals mg
section
variable {w : World} {K : PySem.W.Frag} {mg : Str → Option Value}
theorem Top.fact (T : Top w K mg) (i : Nat) {f : He.Fa} (h : fa[i]? = some f := by rfl) : f.ok K = true := T.s.fact i h
theorem Top.def_ (T : Top w K mg) (i : Nat) {d : He.DefD} (h : fn[i]? = some d := by rfl) : ∃ fd, FunD K d.name d.qual d.params d.body d.scope (d.dvs K) (d.kws K) (He.fAd K d.at_) fd := T.s.def_ i h
theorem Top.ex (T : Top w K mg) : EX.ex K = true := T.e
theorem Top.g__law_wrong_values (T : Top w K mg) : mg "_law_wrong_values" = some (.ref (cla K "_law_wrong_values")) := let ⟨_, X, G⟩ := T.x; He.glo_ok X G (T.fact 0)
theorem Top.g__law_kinds (T : Top w K mg) : mg "_law_kinds" = some (.ref (cla K "_law_kinds")) := let ⟨_, X, G⟩ := T.x; He.glo_ok X G (T.fact 1)
theorem Top.g__law_own (T : Top w K mg) : mg "_law_own" = some (.ref (cla K "_law_own")) := let ⟨_, X, G⟩ := T.x; He.glo_ok X G (T.fact 2)
theorem Top.g_law (T : Top w K mg) : mg "law" = some (.ref (cla K "law")) := let ⟨_, X, G⟩ := T.x; He.glo_ok X G (T.fact 3)
theorem Top.g_WrongValue (T : Top w K mg) : mg "WrongValue" = some (.ref (cla K "WrongValue")) := let ⟨_, X, G⟩ := T.x; He.glo_ok X G (T.fact 4)
theorem Top.g_InvalidNumber (T : Top w K mg) : mg "InvalidNumber" = some (.ref (cla K "InvalidNumber")) := let ⟨_, X, G⟩ := T.x; He.glo_ok X G (T.fact 5)
theorem Top.g_InvalidNaming (T : Top w K mg) : mg "InvalidNaming" = some (.ref (cla K "InvalidNaming")) := let ⟨_, X, G⟩ := T.x; He.glo_ok X G (T.fact 6)
theorem Top.g_InvalidPlace (T : Top w K mg) : mg "InvalidPlace" = some (.ref (cla K "InvalidPlace")) := let ⟨_, X, G⟩ := T.x; He.glo_ok X G (T.fact 7)
theorem Top.g_InvalidName (T : Top w K mg) : mg "InvalidName" = some (.ref (cla K "InvalidName")) := let ⟨_, X, G⟩ := T.x; He.glo_ok X G (T.fact 8)
theorem Top.g_InvalidClaim (T : Top w K mg) : mg "InvalidClaim" = some (.ref (cla K "InvalidClaim")) := let ⟨_, X, G⟩ := T.x; He.glo_ok X G (T.fact 9)
theorem Top.g_InvalidIndex (T : Top w K mg) : mg "InvalidIndex" = some (.ref (cla K "InvalidIndex")) := let ⟨_, X, G⟩ := T.x; He.glo_ok X G (T.fact 10)
theorem Top.g_InvalidLine (T : Top w K mg) : mg "InvalidLine" = some (.ref (cla K "InvalidLine")) := let ⟨_, X, G⟩ := T.x; He.glo_ok X G (T.fact 11)
theorem Top.g_InvalidBound (T : Top w K mg) : mg "InvalidBound" = some (.ref (cla K "InvalidBound")) := let ⟨_, X, G⟩ := T.x; He.glo_ok X G (T.fact 12)
theorem Top.g_NotAStanding (T : Top w K mg) : mg "NotAStanding" = some (.ref (cla K "NotAStanding")) := let ⟨_, X, G⟩ := T.x; He.glo_ok X G (T.fact 13)
theorem Top.g_NotAWeb (T : Top w K mg) : mg "NotAWeb" = some (.ref (cla K "NotAWeb")) := let ⟨_, X, G⟩ := T.x; He.glo_ok X G (T.fact 14)
theorem Top.g_InvalidNumbers (T : Top w K mg) : mg "InvalidNumbers" = some (.ref (cla K "InvalidNumbers")) := let ⟨_, X, G⟩ := T.x; He.glo_ok X G (T.fact 15)
theorem Top.g_InvalidTurns (T : Top w K mg) : mg "InvalidTurns" = some (.ref (cla K "InvalidTurns")) := let ⟨_, X, G⟩ := T.x; He.glo_ok X G (T.fact 16)
theorem Top.g_InvalidRows (T : Top w K mg) : mg "InvalidRows" = some (.ref (cla K "InvalidRows")) := let ⟨_, X, G⟩ := T.x; He.glo_ok X G (T.fact 17)
theorem Top.g_InvalidRemainders (T : Top w K mg) : mg "InvalidRemainders" = some (.ref (cla K "InvalidRemainders")) := let ⟨_, X, G⟩ := T.x; He.glo_ok X G (T.fact 18)
theorem Top.g_InvalidDeeds (T : Top w K mg) : mg "InvalidDeeds" = some (.ref (cla K "InvalidDeeds")) := let ⟨_, X, G⟩ := T.x; He.glo_ok X G (T.fact 19)
theorem Top.g_WrongName (T : Top w K mg) : mg "WrongName" = some (.ref (cla K "WrongName")) := let ⟨_, X, G⟩ := T.x; He.glo_ok X G (T.fact 20)
theorem Top.g_UnknownName (T : Top w K mg) : mg "UnknownName" = some (.ref (cla K "UnknownName")) := let ⟨_, X, G⟩ := T.x; He.glo_ok X G (T.fact 21)
theorem Top.g_InUse (T : Top w K mg) : mg "InUse" = some (.ref (cla K "InUse")) := let ⟨_, X, G⟩ := T.x; He.glo_ok X G (T.fact 22)
theorem Top.g_NoAnswer (T : Top w K mg) : mg "NoAnswer" = some (.ref (cla K "NoAnswer")) := let ⟨_, X, G⟩ := T.x; He.glo_ok X G (T.fact 23)
theorem Top.g_TooGreat (T : Top w K mg) : mg "TooGreat" = some (.ref (cla K "TooGreat")) := let ⟨_, X, G⟩ := T.x; He.glo_ok X G (T.fact 24)
theorem Top.g_TooMany (T : Top w K mg) : mg "TooMany" = some (.ref (cla K "TooMany")) := let ⟨_, X, G⟩ := T.x; He.glo_ok X G (T.fact 25)
theorem Top.g_NothingToUndo (T : Top w K mg) : mg "NothingToUndo" = some (.ref (cla K "NothingToUndo")) := let ⟨_, X, G⟩ := T.x; He.glo_ok X G (T.fact 26)
theorem Top.g_Broken (T : Top w K mg) : mg "Broken" = some (.ref (cla K "Broken")) := let ⟨_, X, G⟩ := T.x; He.glo_ok X G (T.fact 27)
theorem Top.n_GREATEST (T : Top w K mg) : ∃ u, mg "GREATEST" = some u ∧ RelV (.int (10 ^ 300)) u := let ⟨_, X, G⟩ := T.x; let ⟨t, e⟩ := He.int_ok X G (T.fact 28); ⟨_, e, t, rfl⟩
theorem Top.n_MOST_TIMES (T : Top w K mg) : ∃ u, mg "MOST_TIMES" = some u ∧ RelV (.int (10 ^ 310)) u := let ⟨_, X, G⟩ := T.x; let ⟨t, e⟩ := He.int_ok X G (T.fact 29); ⟨_, e, t, rfl⟩
theorem Top.n_MOST_PAIRS (T : Top w K mg) : ∃ u, mg "MOST_PAIRS" = some u ∧ RelV (.int (200)) u := let ⟨_, X, G⟩ := T.x; let ⟨t, e⟩ := He.int_ok X G (T.fact 30); ⟨_, e, t, rfl⟩
theorem Top.n_MOST_LETTERS (T : Top w K mg) : ∃ u, mg "MOST_LETTERS" = some u ∧ RelV (.int (12)) u := let ⟨_, X, G⟩ := T.x; let ⟨t, e⟩ := He.int_ok X G (T.fact 31); ⟨_, e, t, rfl⟩
theorem Top.n_MOST_REMAINDER (T : Top w K mg) : ∃ u, mg "MOST_REMAINDER" = some u ∧ RelV (.int (12)) u := let ⟨_, X, G⟩ := T.x; let ⟨t, e⟩ := He.int_ok X G (T.fact 32); ⟨_, e, t, rfl⟩
theorem Top.n_MOST_LISTED (T : Top w K mg) : ∃ u, mg "MOST_LISTED" = some u ∧ RelV (.int (2000)) u := let ⟨_, X, G⟩ := T.x; let ⟨t, e⟩ := He.int_ok X G (T.fact 33); ⟨_, e, t, rfl⟩
theorem Top.n_MOST_BOUND (T : Top w K mg) : ∃ u, mg "MOST_BOUND" = some u ∧ RelV (.int (10 ^ 6)) u := let ⟨_, X, G⟩ := T.x; let ⟨t, e⟩ := He.int_ok X G (T.fact 34); ⟨_, e, t, rfl⟩
theorem Top.n_MOST_PLACES (T : Top w K mg) : ∃ u, mg "MOST_PLACES" = some u ∧ RelV (.int (5)) u := let ⟨_, X, G⟩ := T.x; let ⟨t, e⟩ := He.int_ok X G (T.fact 35); ⟨_, e, t, rfl⟩
theorem Top.n_MOST_WEB (T : Top w K mg) : ∃ u, mg "MOST_WEB" = some u ∧ RelV (.int (10 ^ 30)) u := let ⟨_, X, G⟩ := T.x; let ⟨t, e⟩ := He.int_ok X G (T.fact 36); ⟨_, e, t, rfl⟩
theorem Top.n_MOST_WEBS (T : Top w K mg) : ∃ u, mg "MOST_WEBS" = some u ∧ RelV (.int (300)) u := let ⟨_, X, G⟩ := T.x; let ⟨t, e⟩ := He.int_ok X G (T.fact 37); ⟨_, e, t, rfl⟩
theorem Top.n_MOST_TABLE (T : Top w K mg) : ∃ u, mg "MOST_TABLE" = some u ∧ RelV (.int (10000)) u := let ⟨_, X, G⟩ := T.x; let ⟨t, e⟩ := He.int_ok X G (T.fact 38); ⟨_, e, t, rfl⟩
theorem Top.b_range (T : Top w K mg) : mg "range" = none := let ⟨_, X, G⟩ := T.x; He.free_ok X G (T.fact 39)
theorem Top.b_isinstance (T : Top w K mg) : mg "isinstance" = none := let ⟨_, X, G⟩ := T.x; He.free_ok X G (T.fact 40)
theorem Top.b_repr (T : Top w K mg) : mg "repr" = none := let ⟨_, X, G⟩ := T.x; He.free_ok X G (T.fact 41)
theorem Top.b_ValueError (T : Top w K mg) : mg "ValueError" = none := let ⟨_, X, G⟩ := T.x; He.free_ok X G (T.fact 42)
theorem Top.b_LookupError (T : Top w K mg) : mg "LookupError" = none := let ⟨_, X, G⟩ := T.x; He.free_ok X G (T.fact 43)
theorem Top.b_ArithmeticError (T : Top w K mg) : mg "ArithmeticError" = none := let ⟨_, X, G⟩ := T.x; He.free_ok X G (T.fact 44)
end
end EX

namespace EX
open L2 PyProof.Rows PySem.Spec PySem
abbrev R : PySem.W.OpenRow := PySem.W.OpenLaw.row PySem.Challenge.rw_arrowtrios_k01_constants_and_errors
abbrev hk : PySem.W.Hook := hook 6
def ob (s : PySem.W.SharedT) : He.AlD × Bool := looks 6 (HandSHeadRun.getT s)
theorem ob_eq (s : PySem.W.SharedT) : ob s = hk.obs s.abs := congrArg (looks 6) (funext (HandSHeadRun.getT_eq s))
def loose : List Str := (["WrongValue", "InvalidNumber", "InvalidNaming", "InvalidPlace", "InvalidName", "InvalidClaim", "InvalidIndex", "InvalidLine", "InvalidBound", "NotAStanding", "NotAWeb", "InvalidNumbers", "InvalidTurns", "InvalidRows", "InvalidRemainders", "InvalidDeeds", "WrongName", "UnknownName", "InUse", "NoAnswer", "TooGreat", "TooMany", "NothingToUndo", "Broken", "_law_wrong_values", "_law_kinds", "_law_own", "GREATEST", "MOST_TIMES", "MOST_PAIRS"] : List Str) ++ (["MOST_LETTERS", "MOST_REMAINDER", "MOST_LISTED", "MOST_BOUND", "MOST_PLACES", "MOST_WEB", "MOST_WEBS", "MOST_TABLE"] : List Str)
theorem run (w : World) : HandSHeadRun.RunEq R (PySem.W.view R.prog [40]) hk ob 9000 loose w := by
  intro os
  kernel_rfl
end EX

namespace EX
open L2 PyProof.Rows PySem.Spec PySem
theorem bindsK {K : PySem.W.Frag} {x q y : Str} {ps : Arguments} {body : List Stmt} {sc : Scope} {kws : List (Str × V)} {f : Addr} {fd : FuncData} (F : FunD K x q ps body sc [] kws f fd)
    (h : ∀ (kV doc pm : Value) (an : Option Addr) (cdv ct e u : Value), bindArgs (PySem.W.fnOf x q ps body sc .none kV doc pm an cdv ct) ⟨[e], [(y, u)]⟩ = pure ([(("self" : Str), e), (y, u)] : List (Str × Value))) (s : Shared) (e u : Value) : BindsTo s fd ⟨[e], [(y, u)]⟩ ((["self", y] : List Str).zip [e, u]) := by
  obtain ⟨_, _, dV, kV, doc, pm, an, cdv, ct, _, rfl, _, _, d, _⟩ := F.ex
  rcases d with ⟨_, rfl⟩ | ⟨n, _⟩
  · exact .of_eq (h kV doc pm an cdv ct e u)
  · exact absurd rfl n
theorem FBV : ExcBaseFacts "ValueError" "ValueError.__new__" "ValueError.__init__" VE := PySem.F.excBase_ValueError
theorem FBL : ExcBaseFacts "LookupError" "LookupError.__new__" "LookupError.__init__" LE := PySem.F.excBase_LookupError
theorem FBA : ExcBaseFacts "ArithmeticError" "ArithmeticError.__new__" "ArithmeticError.__init__" AE := PySem.F.excBase_ArithmeticError
theorem SFV : StoreFacts "ValueError" VE "object.__setattr__" "object" := PySem.F.store_ValueError
theorem SFL : StoreFacts "LookupError" LE "object.__setattr__" "object" := PySem.F.store_LookupError
theorem SFA : StoreFacts "ArithmeticError" AE "object.__setattr__" "object" := PySem.F.store_ArithmeticError
theorem tyA : NwS.TyAt "ArithmeticError" "__init__" "ArithmeticError.__init__" := ⟨by decide +kernel, by first | rfl | kernel_rfl, fun K => by kernel_rfl, by decide +kernel⟩
section
variable {P : Program} {base : Heap} {w : World} {K : PySem.W.Frag} {mg : Str → Option Value}
abbrev Made (P : Program) (w : World) (K : PySem.W.Frag) (mg : Str → Option Value) (base : Heap) (c y : Str) (new : String) (tail : List Value) : Prop :=
  ∃ fd, FnOk P w K mg base CX0 1 (ini_ K c) fd ["self", y] (spIni K new tail y) ∧ Binds K fd ["self", y] [] ∧ ∀ (s : Shared) (e u : Value), BindsTo s fd ⟨[e], [(y, u)]⟩ ((["self", y] : List Str).zip [e, u])
theorem ok_InvalidNumber (T : Top w K mg) : Made P w K mg base "InvalidNumber" "given" "ValueError.__new__" VE := by
  obtain ⟨fd, F⟩ := T.def_ 4
  have F : FunD K "__init__" "InvalidNumber.__init__" (defArgs (inClass (top 2) 0)) (defBody (inClass (top 2) 0)) (defScope (inClass (top 2) 0)) [] [] (ini_ K "InvalidNumber") fd := F
  exact ⟨fd, ini (st := inClass (top 2) 0) ⟨rfl, rfl, rfl, by decide +kernel, rfl, by decide +kernel, by decide +kernel⟩ (.inl rfl) (.inl rfl) (by decide) (by decide) rfl F SFV,
    F.bindsN fun _ _ _ _ _ _ us hl => (match us, hl with | [_, _], _ => rfl), bindsK F fun _ _ _ _ _ _ _ _ => rfl⟩
theorem ok_InvalidNaming (T : Top w K mg) : Made P w K mg base "InvalidNaming" "given" "ValueError.__new__" VE := by
  obtain ⟨fd, F⟩ := T.def_ 5
  have F : FunD K "__init__" "InvalidNaming.__init__" (defArgs (inClass (top 3) 0)) (defBody (inClass (top 3) 0)) (defScope (inClass (top 3) 0)) [] [] (ini_ K "InvalidNaming") fd := F
  exact ⟨fd, ini (st := inClass (top 3) 0) ⟨rfl, rfl, rfl, by decide +kernel, rfl, by decide +kernel, by decide +kernel⟩ (.inl rfl) (.inl rfl) (by decide) (by decide) rfl F SFV,
    F.bindsN fun _ _ _ _ _ _ us hl => (match us, hl with | [_, _], _ => rfl), bindsK F fun _ _ _ _ _ _ _ _ => rfl⟩
theorem ok_InvalidPlace (T : Top w K mg) : Made P w K mg base "InvalidPlace" "given" "ValueError.__new__" VE := by
  obtain ⟨fd, F⟩ := T.def_ 6
  have F : FunD K "__init__" "InvalidPlace.__init__" (defArgs (inClass (top 4) 0)) (defBody (inClass (top 4) 0)) (defScope (inClass (top 4) 0)) [] [] (ini_ K "InvalidPlace") fd := F
  exact ⟨fd, ini (st := inClass (top 4) 0) ⟨rfl, rfl, rfl, by decide +kernel, rfl, by decide +kernel, by decide +kernel⟩ (.inl rfl) (.inl rfl) (by decide) (by decide) rfl F SFV,
    F.bindsN fun _ _ _ _ _ _ us hl => (match us, hl with | [_, _], _ => rfl), bindsK F fun _ _ _ _ _ _ _ _ => rfl⟩
theorem ok_InvalidName (T : Top w K mg) : Made P w K mg base "InvalidName" "given" "ValueError.__new__" VE := by
  obtain ⟨fd, F⟩ := T.def_ 7
  have F : FunD K "__init__" "InvalidName.__init__" (defArgs (inClass (top 5) 0)) (defBody (inClass (top 5) 0)) (defScope (inClass (top 5) 0)) [] [] (ini_ K "InvalidName") fd := F
  exact ⟨fd, ini (st := inClass (top 5) 0) ⟨rfl, rfl, rfl, by decide +kernel, rfl, by decide +kernel, by decide +kernel⟩ (.inl rfl) (.inl rfl) (by decide) (by decide) rfl F SFV,
    F.bindsN fun _ _ _ _ _ _ us hl => (match us, hl with | [_, _], _ => rfl), bindsK F fun _ _ _ _ _ _ _ _ => rfl⟩
theorem ok_InvalidClaim (T : Top w K mg) : Made P w K mg base "InvalidClaim" "given" "ValueError.__new__" VE := by
  obtain ⟨fd, F⟩ := T.def_ 8
  have F : FunD K "__init__" "InvalidClaim.__init__" (defArgs (inClass (top 6) 0)) (defBody (inClass (top 6) 0)) (defScope (inClass (top 6) 0)) [] [] (ini_ K "InvalidClaim") fd := F
  exact ⟨fd, ini (st := inClass (top 6) 0) ⟨rfl, rfl, rfl, by decide +kernel, rfl, by decide +kernel, by decide +kernel⟩ (.inl rfl) (.inl rfl) (by decide) (by decide) rfl F SFV,
    F.bindsN fun _ _ _ _ _ _ us hl => (match us, hl with | [_, _], _ => rfl), bindsK F fun _ _ _ _ _ _ _ _ => rfl⟩
theorem ok_InvalidIndex (T : Top w K mg) : Made P w K mg base "InvalidIndex" "given" "ValueError.__new__" VE := by
  obtain ⟨fd, F⟩ := T.def_ 9
  have F : FunD K "__init__" "InvalidIndex.__init__" (defArgs (inClass (top 7) 0)) (defBody (inClass (top 7) 0)) (defScope (inClass (top 7) 0)) [] [] (ini_ K "InvalidIndex") fd := F
  exact ⟨fd, ini (st := inClass (top 7) 0) ⟨rfl, rfl, rfl, by decide +kernel, rfl, by decide +kernel, by decide +kernel⟩ (.inl rfl) (.inl rfl) (by decide) (by decide) rfl F SFV,
    F.bindsN fun _ _ _ _ _ _ us hl => (match us, hl with | [_, _], _ => rfl), bindsK F fun _ _ _ _ _ _ _ _ => rfl⟩
theorem ok_InvalidLine (T : Top w K mg) : Made P w K mg base "InvalidLine" "given" "ValueError.__new__" VE := by
  obtain ⟨fd, F⟩ := T.def_ 10
  have F : FunD K "__init__" "InvalidLine.__init__" (defArgs (inClass (top 8) 0)) (defBody (inClass (top 8) 0)) (defScope (inClass (top 8) 0)) [] [] (ini_ K "InvalidLine") fd := F
  exact ⟨fd, ini (st := inClass (top 8) 0) ⟨rfl, rfl, rfl, by decide +kernel, rfl, by decide +kernel, by decide +kernel⟩ (.inl rfl) (.inl rfl) (by decide) (by decide) rfl F SFV,
    F.bindsN fun _ _ _ _ _ _ us hl => (match us, hl with | [_, _], _ => rfl), bindsK F fun _ _ _ _ _ _ _ _ => rfl⟩
theorem ok_InvalidBound (T : Top w K mg) : Made P w K mg base "InvalidBound" "given" "ValueError.__new__" VE := by
  obtain ⟨fd, F⟩ := T.def_ 11
  have F : FunD K "__init__" "InvalidBound.__init__" (defArgs (inClass (top 9) 0)) (defBody (inClass (top 9) 0)) (defScope (inClass (top 9) 0)) [] [] (ini_ K "InvalidBound") fd := F
  exact ⟨fd, ini (st := inClass (top 9) 0) ⟨rfl, rfl, rfl, by decide +kernel, rfl, by decide +kernel, by decide +kernel⟩ (.inl rfl) (.inl rfl) (by decide) (by decide) rfl F SFV,
    F.bindsN fun _ _ _ _ _ _ us hl => (match us, hl with | [_, _], _ => rfl), bindsK F fun _ _ _ _ _ _ _ _ => rfl⟩
theorem ok_NotAStanding (T : Top w K mg) : Made P w K mg base "NotAStanding" "given" "ValueError.__new__" VE := by
  obtain ⟨fd, F⟩ := T.def_ 12
  have F : FunD K "__init__" "NotAStanding.__init__" (defArgs (inClass (top 10) 0)) (defBody (inClass (top 10) 0)) (defScope (inClass (top 10) 0)) [] [] (ini_ K "NotAStanding") fd := F
  exact ⟨fd, ini (st := inClass (top 10) 0) ⟨rfl, rfl, rfl, by decide +kernel, rfl, by decide +kernel, by decide +kernel⟩ (.inl rfl) (.inl rfl) (by decide) (by decide) rfl F SFV,
    F.bindsN fun _ _ _ _ _ _ us hl => (match us, hl with | [_, _], _ => rfl), bindsK F fun _ _ _ _ _ _ _ _ => rfl⟩
theorem ok_NotAWeb (T : Top w K mg) : Made P w K mg base "NotAWeb" "given" "ValueError.__new__" VE := by
  obtain ⟨fd, F⟩ := T.def_ 13
  have F : FunD K "__init__" "NotAWeb.__init__" (defArgs (inClass (top 11) 0)) (defBody (inClass (top 11) 0)) (defScope (inClass (top 11) 0)) [] [] (ini_ K "NotAWeb") fd := F
  exact ⟨fd, ini (st := inClass (top 11) 0) ⟨rfl, rfl, rfl, by decide +kernel, rfl, by decide +kernel, by decide +kernel⟩ (.inl rfl) (.inl rfl) (by decide) (by decide) rfl F SFV,
    F.bindsN fun _ _ _ _ _ _ us hl => (match us, hl with | [_, _], _ => rfl), bindsK F fun _ _ _ _ _ _ _ _ => rfl⟩
theorem ok_InvalidNumbers (T : Top w K mg) : Made P w K mg base "InvalidNumbers" "index" "ValueError.__new__" VE := by
  obtain ⟨fd, F⟩ := T.def_ 14
  have F : FunD K "__init__" "InvalidNumbers.__init__" (defArgs (inClass (top 12) 0)) (defBody (inClass (top 12) 0)) (defScope (inClass (top 12) 0)) [] [] (ini_ K "InvalidNumbers") fd := F
  exact ⟨fd, ini (st := inClass (top 12) 0) ⟨rfl, rfl, rfl, by decide +kernel, rfl, by decide +kernel, by decide +kernel⟩ (.inl rfl) (.inl rfl) (by decide) (by decide) rfl F SFV,
    F.bindsN fun _ _ _ _ _ _ us hl => (match us, hl with | [_, _], _ => rfl), bindsK F fun _ _ _ _ _ _ _ _ => rfl⟩
theorem ok_InvalidTurns (T : Top w K mg) : Made P w K mg base "InvalidTurns" "index" "ValueError.__new__" VE := by
  obtain ⟨fd, F⟩ := T.def_ 15
  have F : FunD K "__init__" "InvalidTurns.__init__" (defArgs (inClass (top 13) 0)) (defBody (inClass (top 13) 0)) (defScope (inClass (top 13) 0)) [] [] (ini_ K "InvalidTurns") fd := F
  exact ⟨fd, ini (st := inClass (top 13) 0) ⟨rfl, rfl, rfl, by decide +kernel, rfl, by decide +kernel, by decide +kernel⟩ (.inl rfl) (.inl rfl) (by decide) (by decide) rfl F SFV,
    F.bindsN fun _ _ _ _ _ _ us hl => (match us, hl with | [_, _], _ => rfl), bindsK F fun _ _ _ _ _ _ _ _ => rfl⟩
theorem ok_InvalidRows (T : Top w K mg) : Made P w K mg base "InvalidRows" "index" "ValueError.__new__" VE := by
  obtain ⟨fd, F⟩ := T.def_ 16
  have F : FunD K "__init__" "InvalidRows.__init__" (defArgs (inClass (top 14) 0)) (defBody (inClass (top 14) 0)) (defScope (inClass (top 14) 0)) [] [] (ini_ K "InvalidRows") fd := F
  exact ⟨fd, ini (st := inClass (top 14) 0) ⟨rfl, rfl, rfl, by decide +kernel, rfl, by decide +kernel, by decide +kernel⟩ (.inl rfl) (.inl rfl) (by decide) (by decide) rfl F SFV,
    F.bindsN fun _ _ _ _ _ _ us hl => (match us, hl with | [_, _], _ => rfl), bindsK F fun _ _ _ _ _ _ _ _ => rfl⟩
theorem ok_InvalidRemainders (T : Top w K mg) : Made P w K mg base "InvalidRemainders" "index" "ValueError.__new__" VE := by
  obtain ⟨fd, F⟩ := T.def_ 17
  have F : FunD K "__init__" "InvalidRemainders.__init__" (defArgs (inClass (top 15) 0)) (defBody (inClass (top 15) 0)) (defScope (inClass (top 15) 0)) [] [] (ini_ K "InvalidRemainders") fd := F
  exact ⟨fd, ini (st := inClass (top 15) 0) ⟨rfl, rfl, rfl, by decide +kernel, rfl, by decide +kernel, by decide +kernel⟩ (.inl rfl) (.inl rfl) (by decide) (by decide) rfl F SFV,
    F.bindsN fun _ _ _ _ _ _ us hl => (match us, hl with | [_, _], _ => rfl), bindsK F fun _ _ _ _ _ _ _ _ => rfl⟩
theorem ok_InvalidDeeds (T : Top w K mg) : Made P w K mg base "InvalidDeeds" "index" "ValueError.__new__" VE := by
  obtain ⟨fd, F⟩ := T.def_ 18
  have F : FunD K "__init__" "InvalidDeeds.__init__" (defArgs (inClass (top 16) 0)) (defBody (inClass (top 16) 0)) (defScope (inClass (top 16) 0)) [] [] (ini_ K "InvalidDeeds") fd := F
  exact ⟨fd, ini (st := inClass (top 16) 0) ⟨rfl, rfl, rfl, by decide +kernel, rfl, by decide +kernel, by decide +kernel⟩ (.inl rfl) (.inl rfl) (by decide) (by decide) rfl F SFV,
    F.bindsN fun _ _ _ _ _ _ us hl => (match us, hl with | [_, _], _ => rfl), bindsK F fun _ _ _ _ _ _ _ _ => rfl⟩
theorem ok_UnknownName (T : Top w K mg) : Made P w K mg base "UnknownName" "given" "LookupError.__new__" LE := by
  obtain ⟨fd, F⟩ := T.def_ 19
  have F : FunD K "__init__" "UnknownName.__init__" (defArgs (inClass (top 18) 0)) (defBody (inClass (top 18) 0)) (defScope (inClass (top 18) 0)) [] [] (ini_ K "UnknownName") fd := F
  exact ⟨fd, ini (st := inClass (top 18) 0) ⟨rfl, rfl, rfl, by decide +kernel, rfl, by decide +kernel, by decide +kernel⟩ (.inl rfl) (.inl rfl) (by decide) (by decide) rfl F SFL,
    F.bindsN fun _ _ _ _ _ _ us hl => (match us, hl with | [_, _], _ => rfl), bindsK F fun _ _ _ _ _ _ _ _ => rfl⟩
theorem ok_InUse (T : Top w K mg) : Made P w K mg base "InUse" "index" "LookupError.__new__" LE := by
  obtain ⟨fd, F⟩ := T.def_ 20
  have F : FunD K "__init__" "InUse.__init__" (defArgs (inClass (top 19) 0)) (defBody (inClass (top 19) 0)) (defScope (inClass (top 19) 0)) [] [] (ini_ K "InUse") fd := F
  exact ⟨fd, ini (st := inClass (top 19) 0) ⟨rfl, rfl, rfl, by decide +kernel, rfl, by decide +kernel, by decide +kernel⟩ (.inl rfl) (.inl rfl) (by decide) (by decide) rfl F SFL,
    F.bindsN fun _ _ _ _ _ _ us hl => (match us, hl with | [_, _], _ => rfl), bindsK F fun _ _ _ _ _ _ _ _ => rfl⟩
theorem ok_TooGreat (T : Top w K mg) : Made P w K mg base "TooGreat" "index" "ArithmeticError.__new__" AE := by
  obtain ⟨fd, F⟩ := T.def_ 21
  have F : FunD K "__init__" "TooGreat.__init__" (defArgs (inClass (top 21) 0)) (defBody (inClass (top 21) 0)) (defScope (inClass (top 21) 0)) [] [] (ini_ K "TooGreat") fd := F
  exact ⟨fd, ini (st := inClass (top 21) 0) ⟨rfl, rfl, rfl, by decide +kernel, rfl, by decide +kernel, by decide +kernel⟩ (.inl rfl) (.inl rfl) (by decide) (by decide) rfl F SFA,
    F.bindsN fun _ _ _ _ _ _ us hl => (match us, hl with | [_, _], _ => rfl), bindsK F fun _ _ _ _ _ _ _ _ => rfl⟩
theorem ok_TooMany (T : Top w K mg) : Made P w K mg base "TooMany" "limit" "ArithmeticError.__new__" AE := by
  obtain ⟨fd, F⟩ := T.def_ 22
  have F : FunD K "__init__" "TooMany.__init__" (defArgs (inClass (top 22) 0)) (defBody (inClass (top 22) 0)) (defScope (inClass (top 22) 0)) [] [] (ini_ K "TooMany") fd := F
  exact ⟨fd, ini (st := inClass (top 22) 0) ⟨rfl, rfl, rfl, by decide +kernel, rfl, by decide +kernel, by decide +kernel⟩ (.inl rfl) (.inl rfl) (by decide) (by decide) rfl F SFA,
    F.bindsN fun _ _ _ _ _ _ us hl => (match us, hl with | [_, _], _ => rfl), bindsK F fun _ _ _ _ _ _ _ _ => rfl⟩
theorem ok_Broken (T : Top w K mg) : Made P w K mg base "Broken" "index" "ArithmeticError.__new__" AE := by
  obtain ⟨fd, F⟩ := T.def_ 24
  have F : FunD K "__init__" "Broken.__init__" (defArgs (inClass (top 24) 0)) (defBody (inClass (top 24) 0)) (defScope (inClass (top 24) 0)) [] [] (ini_ K "Broken") fd := F
  exact ⟨fd, ini (st := inClass (top 24) 0) ⟨rfl, rfl, rfl, by decide +kernel, rfl, by decide +kernel, by decide +kernel⟩ (.inl rfl) (.inl rfl) (by decide) (by decide) rfl F SFA,
    F.bindsN fun _ _ _ _ _ _ us hl => (match us, hl with | [_, _], _ => rfl), bindsK F fun _ _ _ _ _ _ _ _ => rfl⟩
abbrev Up (P : Program) (w : World) (K : PySem.W.Frag) (mg : Str → Option Value) (base : Heap) (c : Str) (k : Nat) : Prop :=
  ∃ fd, FnOk P w K mg base CX0 k (ini_ K c) fd ["self"] (spUp K "ArithmeticError.__new__" AE) ∧ Binds K fd ["self"] []
theorem scNA : FnScope ["self"] ["self"] (defScope (inClass (top 20) 0)) := ⟨rfl, rfl, rfl, by decide +kernel, rfl, by decide +kernel, by decide +kernel⟩
theorem ok_NoAnswer (T : Top w K mg) : Up P w K mg base "NoAnswer" 1 := by
  obtain ⟨fd, F⟩ := T.def_ 25
  have F : FunD K "__init__" "NoAnswer.__init__" (defArgs (inClass (top 20) 0)) (defBody (inClass (top 20) 0)) (defScope (inClass (top 20) 0)) [] [] (ini_ K "NoAnswer") fd := F
  refine ⟨fd, F.ok scNA (fun vs H Q E h => ?_) (fun cdv A outer s H vs Q E hr h => ⟨_, PSs.nox (pss_one (ps_expr (NwS.pe_tyat (call_up FBA) tyA (by rfl) T.b_ArithmeticError (by decide +kernel) (pa_cons (pv 0) pa_nil)))), ?_⟩), F.bindsN fun _ _ _ _ _ _ us hl => (match us, hl with | [_], _ => rfl)⟩
  · obtain ⟨_, _, rfl, _⟩ := h
    rfl
  · obtain ⟨a, C, rfl, X, e, q⟩ := h
    exact ⟨.ref a, rfl, a, C, rfl, X, e, q⟩
theorem scNU : FnScope ["self"] ["self"] (defScope (inClass (top 23) 0)) := ⟨rfl, rfl, rfl, by decide +kernel, rfl, by decide +kernel, by decide +kernel⟩
theorem off_NoAnswer (T : Top w K mg) : offB K (cla K "NoAnswer") (ini_ K "NoAnswer") = true := (He.ba (He.ba T.ex).2).2
theorem ok_NothingToUndo (T : Top w K mg) : Up P w K mg base "NothingToUndo" 2 := by
  obtain ⟨fd, F⟩ := T.def_ 23
  have F : FunD K "__init__" "NothingToUndo.__init__" (defArgs (inClass (top 23) 0)) (defBody (inClass (top 23) 0)) (defScope (inClass (top 23) 0)) [] [] (ini_ K "NothingToUndo") fd := F
  obtain ⟨fd1, F1, b1⟩ := ok_NoAnswer (P := P) (base := base) T
  refine ⟨fd, F.ok scNU (fun vs H Q E h => ?_) (fun cdv A outer s H vs Q E hr h => ⟨_, PSs.nox (pss_one (ps_expr (pe_off (off_NoAnswer T) F1 hr b1 pass0 (by rfl) T.g_NoAnswer (pa_cons (pv 0) pa_nil)))), ?_⟩), F.bindsN fun _ _ _ _ _ _ us hl => (match us, hl with | [_], _ => rfl)⟩
  · obtain ⟨_, _, rfl, _⟩ := h
    rfl
  · obtain ⟨a, C, rfl, X, e, q⟩ := h
    exact ⟨.ref a, rfl, a, C, rfl, X, e, q⟩
end
end EX

namespace At
open L2 PyProof.Rows PySem.Spec PySem
/-! ### steps of a reading -/
abbrev St' := List (Option V)
section
variable {K : PySem.W.Frag} {σ : L2.St} {H : Hp} {D : Ends} {Q : VK} {QT : Bool → Hp → Prop} {QA : List V → Hp → Prop} {v x y : V} {ta tb tc te : TE} {t u : TT} {tr : TA} {s1 s2 : TS} {i : Nat} {r r' : R2} {g : TG} {J : It} {R : It → Hp → Prop}
theorem go_var (h : σ[i]? = some (some v)) (q : Q v H) : tVar i σ H Q := ⟨v, h, q⟩
theorem go_c (q : Q v H) : tC v σ H Q := q
theorem go_op (h : ta σ H fun x H1 => tb σ H1 fun y H2 => r x y H2 Q) : tOp r ta tb σ H Q := h
theorem go_un {r : V → Hp → VK → Prop} (h : ta σ H fun x H1 => r x H1 Q) : tUn r ta σ H Q := h
theorem go_rI0 {f : Int → Int → V} {a b : Int} (q : Q (f a b) H) : rI0 f (.int a) (.int b) H Q := ⟨a, b, rfl, rfl, q⟩
theorem go_rI {C : Int → Int → Prop} {f : Int → Int → V} {a b : Int} (c : C a b) (q : Q (f a b) H) : rI C f (.int a) (.int b) H Q := ⟨a, b, rfl, rfl, c, q⟩
theorem go_rU {f : Int → V} {a : Int} (q : Q (f a) H) : rU f (.int a) H Q := ⟨a, rfl, q⟩
theorem go_rEqI {a b : Int} (q : Q (.bl (decide (a = b))) H) : rEq (.int a) (.int b) H Q := ⟨rfl, by
  have e : decide (V.int a = V.int b) = decide (a = b) := by
    by_cases h : a = b
    · rw [h]; simp
    · rw [decide_eq_false h, decide_eq_false (fun z => h (V.int.inj z))]
  rw [e]; exact q⟩
theorem go_rNeI {a b : Int} (q : Q (.bl (!decide (a = b))) H) : rNe (.int a) (.int b) H Q := ⟨rfl, by
  have e : decide (V.int a = V.int b) = decide (a = b) := by
    by_cases h : a = b
    · rw [h]; simp
    · rw [decide_eq_false h, decide_eq_false (fun z => h (V.int.inj z))]
  rw [e]; exact q⟩
theorem go_rEqS {a b : Str} (q : Q (.bl (decide (a = b))) H) : rEq (.str a) (.str b) H Q := ⟨rfl, by
  have e : decide (V.str a = V.str b) = decide (a = b) := by
    by_cases h : a = b
    · rw [h]; simp
    · rw [decide_eq_false h, decide_eq_false (fun z => h (V.str.inj z))]
  rw [e]; exact q⟩
theorem go_rNeS {a b : Str} (q : Q (.bl (!decide (a = b))) H) : rNe (.str a) (.str b) H Q := ⟨rfl, by
  have e : decide (V.str a = V.str b) = decide (a = b) := by
    by_cases h : a = b
    · rw [h]; simp
    · rw [decide_eq_false h, decide_eq_false (fun z => h (V.str.inj z))]
  rw [e]; exact q⟩
theorem go_truL {p : Addr} {xs : List V} (h : SqL K H p xs) (q : QT (!xs.isEmpty) H) : ∃ k, TruV K (.ref p) H k ∧ QT k H := ⟨_, .inl ⟨xs, h, rfl⟩, q⟩
theorem go_truT {p : Addr} {xs : List V} (h : SqT K H p xs) (q : QT (!xs.isEmpty) H) : ∃ k, TruV K (.ref p) H k ∧ QT k H := ⟨_, .inr (.inl ⟨xs, h, rfl⟩), q⟩
theorem go_test (h : ta σ H fun x H' => ∃ k, x = .bl k ∧ QT k H') : tTest ta σ H QT := h
theorem go_tB (h : ta σ H fun x H' => ∃ k, x = .bl k ∧ QT k H') : tB ta σ H QT := h
theorem go_bl {b : Bool} (q : QT b H) : ∃ k, V.bl b = .bl k ∧ QT k H := ⟨b, rfl, q⟩
theorem go_and (h : t σ H fun c H1 => if c = true then u σ H1 QT else QT false H1) : tAnd t u σ H QT := h
theorem go_or (h : t σ H fun c H1 => if c = true then QT true H1 else u σ H1 QT) : tOr t u σ H QT := h
theorem go_not (h : t σ H fun c H1 => QT (!c) H1) : tNot t σ H QT := h
theorem go_andV (h : ta σ H fun x H1 => ∃ c, x = .bl c ∧ if c = true then tb σ H1 Q else Q (.bl false) H1) : tAndV ta tb σ H Q := h
theorem go_orV (h : ta σ H fun x H1 => ∃ c, x = .bl c ∧ if c = true then Q (.bl true) H1 else tb σ H1 Q) : tOrV ta tb σ H Q := h
theorem go_notV (h : ta σ H fun x H1 => ∃ c, x = .bl c ∧ Q (.bl (!c)) H1) : tNotV ta σ H Q := h
theorem go_tIf (h : t σ H fun c H1 => if c = true then ta σ H1 Q else tb σ H1 Q) : tIf t ta tb σ H Q := h
theorem go_chain (h : ta σ H fun x H1 => tb σ H1 fun y H2 => r x y H2 fun z H3 => ∃ k, z = .bl k ∧ (if k = true then tc σ H3 fun w' H4 => r' y w' H4 Q else Q (.bl false) H3)) : tChain r r' ta tb tc σ H Q := h
theorem go_cons (h : ta σ H fun x H1 => tr σ H1 fun xs H2 => QA (x :: xs) H2) : tCons ta tr σ H QA := h
theorem go_nil (q : QA [] H) : tNil σ H QA := q
theorem go_cb {r : List V → Hp → VK → Prop} (h : tr σ H fun vs H1 => r vs H1 Q) : tCB r tr σ H Q := h
theorem go_call {sp : Sp} {E : XK} (h : tr σ H fun vs H1 => sp vs H1 Q E) : tCall sp [] E tr σ H Q := by
  have e : (fun vs H1 => sp (vs ++ []) H1 Q E) = (fun vs H1 => sp vs H1 Q E) := by
    funext vs H1
    rw [List.append_nil]
  show tr σ H fun vs H1 => sp (vs ++ []) H1 Q E
  rw [e]
  exact h
theorem go_tup (h : tr σ H fun xs H1 => xs.length ≤ sizeLine ∧ ∀ p, H1 p = none → Q (.ref p) (upd H1 p (.tup xs))) : tTup tr σ H Q := h
theorem go_lst (h : tr σ H fun xs H1 => xs.length ≤ sizeLine ∧ ∀ p, H1 p = none → Q (.ref p) (upd H1 p (.lst xs))) : tLst tr σ H Q := h
theorem go_sl {r : V → Option Int → Option Int → Hp → VK → Prop} {tl th : TO} (h : te σ H fun x H1 => tl σ H1 fun l H2 => th σ H2 fun u H3 => r x l u H3 Q) : tSl r te tl th σ H Q := h
theorem go_noPart {QO : Option Int → Hp → Prop} (q : QO none H) : tNoPart σ H QO := q
theorem go_part {QO : Option Int → Hp → Prop} (h : te σ H fun x H1 => ∃ i, x = .int i ∧ QO (some i) H1) : tPart te σ H QO := h
theorem go_int {P : Int → Prop} {i : Int} (q : P i) : ∃ j, V.int i = V.int j ∧ P j := ⟨i, rfl, q⟩
theorem go_rIxT {p : Addr} {xs : List V} {j : Int} (h : SqT K H p xs) (e : atI xs j = some v) (q : Q v H) : rIxT K (.ref p) (.int j) H Q := ⟨p, xs, j, v, rfl, rfl, h, e, q⟩
theorem go_rIxL {p : Addr} {xs : List V} {j : Int} (h : SqL K H p xs) (e : atI xs j = some v) (q : Q v H) : rIxL K (.ref p) (.int j) H Q := ⟨p, xs, j, v, rfl, rfl, h, e, q⟩
/-- statements -/
theorem go_seq (h : s1 { D with nx := s2 D } σ H) : tSeq s1 s2 D σ H := h
theorem go_cut (Mid : L2.St → Hp → Prop) (h1 : s1 { D with nx := Mid } σ H) (h2 : ∀ σ' H', Mid σ' H' → s2 D σ' H') : Evl.tCut s1 s2 D σ H := ⟨Mid, h1, h2⟩
theorem go_next (q : D.nx σ H) : tNext D σ H := q
theorem go_brk (q : D.bk σ H) : tBreak D σ H := q
theorem go_cont (q : D.ct σ H) : tCont D σ H := q
theorem go_drop (h : te σ H fun _ H1 => D.nx σ H1) : tDrop te D σ H := h
theorem go_ret (h : te σ H D.rt) : tRet te D σ H := h
theorem go_retN (h : D.rt .non H) : tRetN D σ H := h
theorem go_ifS (h : t σ H fun b H1 => if b = true then s1 D σ H1 else s2 D σ H1) : tIfS t s1 s2 D σ H := h
theorem go_set (h : te σ H fun x H1 => D.nx (σ.set i (some x)) H1) : tAsg te (gName i) D σ H := h
theorem go_asg (h : te σ H fun x H1 => g x σ H1 D.nx) : tAsg te g D σ H := h
theorem go_seq_set (h : te σ H fun x H1 => s2 D (σ.set i (some x)) H1) : tSeq (tAsg te (gName i)) s2 D σ H := h
theorem go_seq_asg (h : te σ H fun x H1 => g x σ H1 (s2 D)) : tSeq (tAsg te g) s2 D σ H := h
theorem go_seq_drop (h : te σ H fun _ H1 => s2 D σ H1) : tSeq (tDrop te) s2 D σ H := h
theorem go_seq_if (h : t σ H fun b H1 => if b = true then s1 { D with nx := s2 D } σ H1 else s2 D σ H1) : tSeq (tIfS t s1 tNext) s2 D σ H := h
theorem go_aug {ti : TIp} (hx : σ[i]? = some (some x)) (h : te σ H fun y H1 => ti x y H1 fun z H2 => D.nx (σ.set i (some z)) H2) : tAug i te ti D σ H := ⟨x, hx, h⟩
theorem go_m1 {r : V → List V → Hp → VK → Prop} {a : Str} (h : te σ H fun y H2 => r (.str a) [y] H2 Q) : tM1 r (tC (.str a)) te σ H Q := ⟨⟨a, rfl⟩, h⟩
theorem go_revL (h : te σ H fun x H1 => ∃ a xs, x = .ref a ∧ SqL K H1 a xs ∧ ∀ p, H1 p = none → Q (.ref p) (upd H1 p (.lst xs.reverse))) : tRevL K te σ H Q := h
theorem go_augS {to ti : TE} {tget : V → V → Hp → VK → Prop} {tip : TIp} {tset : TSet} (h : to σ H fun o H1 => ti σ H1 fun i H2 => tget o i H2 fun x H3 => te σ H3 fun y H4 => tip x y H4 fun z H5 => tset o i z H5 fun H6 => D.nx σ H6) : tAugS to ti te tget tip tset D σ H := h
theorem go_ipI {f : Int → Int → Int} {a b : Int} (q : Q (.int (f a b)) H) : ipI f (.int a) (.int b) H Q := ⟨a, b, rfl, rfl, q⟩
theorem go_gName {QS : L2.St → Hp → Prop} (q : QS (σ.set i (some v)) H) : gName i v σ H QS := q
theorem go_gTup {QS : L2.St → Hp → Prop} {a : Addr} {xs : List V} {n : Nat} {t : TGs} (h : SqT K H a xs) (hl : xs.length = n) (q : t xs σ H QS) : gTup K n t (.ref a) σ H QS := ⟨a, xs, rfl, h, hl, q⟩
theorem go_gUnl {QS : L2.St → Hp → Prop} {a : Addr} {xs : List V} {n : Nat} {t : TGs} (h : SqL K H a xs) (hl : xs.length = n) (q : t xs σ H QS) : gUnl K n t (.ref a) σ H QS := ⟨a, xs, rfl, h, hl, q⟩
theorem go_gCons {QS : L2.St → Hp → Prop} {xs : List V} {t : TG} {u : TGs} (q : t v σ H fun σ' H' => u xs σ' H' QS) : gCons t u (v :: xs) σ H QS := ⟨v, xs, rfl, q⟩
theorem go_gNil {QS : L2.St → Hp → Prop} (q : QS σ H) : gNil [] σ H QS := ⟨rfl, q⟩
theorem go_gSub {QS : L2.St → Hp → Prop} {to ti : TE} {t : TSet} (h : to σ H fun o H1 => ti σ H1 fun i H2 => t o i v H2 fun H3 => QS σ H3) : gSub to ti t v σ H QS := h
theorem go_rSetL {QH : Hp → Prop} {p : Addr} {xs : List V} {k : Int} {j : Nat} (h : H p = some (.lst xs)) (e : ixN xs.length k = some j) (q : QH (upd H p (.lst (xs.set j v)))) : rSetL (.ref p) (.int k) v H QH := ⟨p, xs, k, j, rfl, rfl, h, e, q⟩
theorem go_par {j k : Nat} (h : tr σ H fun vs H1 => ∃ v w, vs = [v, w] ∧ D.nx ((σ.set j (some v)).set k (some w)) H1) : tPar j k tr D σ H := h
theorem go_par3 {j k l : Nat} (h : tr σ H fun vs H1 => ∃ u v w, vs = [u, v, w] ∧ D.nx (((σ.set j (some u)).set k (some v)).set l (some w)) H1) : tPar3 j k l tr D σ H := h
theorem go_two {P : V → V → Prop} {a b : V} (q : P a b) : ∃ v w, [a, b] = [v, w] ∧ P v w := ⟨a, b, rfl, q⟩
theorem go_three {P : V → V → V → Prop} {a b c : V} (q : P a b c) : ∃ u v w, [a, b, c] = [u, v, w] ∧ P u v w := ⟨a, b, c, rfl, q⟩
theorem go_ite {p : Prop} [Decidable p] {A B : Prop} (h1 : p → A) (h2 : ¬ p → B) : if decide p = true then A else B := by
  by_cases h : p
  · rw [if_pos (decide_eq_true h)]; exact h1 h
  · rw [if_neg (by rw [decide_eq_false h]; exact Bool.false_ne_true)]; exact h2 h
theorem go_iteN {p : Prop} [Decidable p] {A B : Prop} (h1 : ¬ p → A) (h2 : p → B) : if (!decide p) = true then A else B := by
  by_cases h : p
  · rw [if_neg (by rw [decide_eq_true h]; exact Bool.false_ne_true)]; exact h2 h
  · rw [if_pos (by rw [decide_eq_false h]; rfl)]; exact h1 h
theorem go_iteB {b : Bool} {A B : Prop} (h1 : b = true → A) (h2 : b = false → B) : if b = true then A else B := by
  cases b
  · exact h2 rfl
  · exact h1 rfl
theorem go_iteT {A B : Prop} (h : A) : if true = true then A else B := h
theorem go_iteF {A B : Prop} (h : B) : if false = true then A else B := h
theorem go_iteNT {A B : Prop} (h : B) : if (!true) = true then A else B := h
theorem go_iteNF {A B : Prop} (h : A) : if (!false) = true then A else B := h
theorem go_iteYes {b : Bool} {A B : Prop} (e : b = true) (h : A) : if b = true then A else B := by rw [e]; exact h
theorem go_iteNo {b : Bool} {A B : Prop} (e : b = false) (h : B) : if b = true then A else B := by rw [e]; exact h
/-- xs.append(e), xs.pop() -/
def AppK (l : Addr) (Q : VK) : VK := fun y H2 => rAppend (.ref l) [y] H2 Q
theorem appk {l : Addr} {xs : List V} (h : H l = some (.lst xs)) (hl : xs.length ≤ 50000) (q : Q .non (upd H l (.lst (xs ++ [y])))) : AppK l Q y H := ⟨l, xs, y, rfl, rfl, h, Nat.lt_of_le_of_lt hl (by decide), q⟩
theorem go_app {l : Addr} {xs0 : List V} (hv : σ[i]? = some (some (.ref l))) (h0 : H l = some (.lst xs0)) (h : te σ H (AppK l Q)) : tBM K "list" rAppend (tVar i) (tCons te tNil) σ H Q := ⟨_, hv, .inl ⟨rfl, xs0, SqL.of h0⟩, h⟩
theorem go_pop {l : Addr} {xs : List V} (hv : σ[i]? = some (some (.ref l))) (h : H l = some (.lst (xs ++ [y]))) (q : Q y (upd H l (.lst xs))) : tBM0 K "list" rPop (tVar i) σ H Q := ⟨_, hv, .inl ⟨rfl, _, SqL.of h⟩, l, _, y, rfl, rfl, h, by
  rw [List.length_append, List.length_singleton, Nat.add_sub_cancel, List.getElem?_append_right (Nat.le_refl _), Nat.sub_self]
  rfl, by rw [List.dropLast_concat]; exact q⟩
/-! ### loops -/
theorem go_iList {tl : TE} (h : tl σ H fun x H1 => ∃ a, x = .ref a ∧ (∃ xs, SqL K H1 a xs) ∧ R (Itl K a) H1) : iList K tl σ H R := h
theorem go_iTup {tl : TE} (h : tl σ H fun x H1 => ∃ a, x = .ref a ∧ (∃ xs, SqT K H1 a xs) ∧ R (Itt K a) H1) : iTup K tl σ H R := h
theorem go_isL {a : Addr} {xs : List V} (h : SqL K H a xs) (q : R (Itl K a) H) : ∃ b, V.ref a = .ref b ∧ (∃ xs, SqL K H b xs) ∧ R (Itl K b) H := ⟨a, rfl, ⟨xs, h⟩, q⟩
theorem go_isT {a : Addr} {xs : List V} (h : SqT K H a xs) (q : R (Itt K a) H) : ∃ b, V.ref a = .ref b ∧ (∃ xs, SqT K H b xs) ∧ R (Itt K b) H := ⟨a, rfl, ⟨xs, h⟩, q⟩
theorem go_iRng1 (h : tr σ H fun vs H1 => ∃ j : Int, vs = [.int j] ∧ -(2 ^ 62) ≤ j ∧ j < 2 ^ 62 ∧ R (Itr 0 j.toNat) H1) : iRng1 tr σ H R := h
theorem go_iRng2 (h : tr σ H fun vs H1 => ∃ i j : Int, vs = [.int i, .int j] ∧ (-(2 ^ 62) ≤ i ∧ i < 2 ^ 62 ∧ -(2 ^ 62) ≤ j ∧ j < 2 ^ 62) ∧ R (Itr i (j - i).toNat) H1) : iRng2 tr σ H R := h
theorem go_isR1 {j : Int} (h0 : -(2 ^ 62) ≤ j) (h1 : j < 2 ^ 62) (q : R (Itr 0 j.toNat) H) : ∃ k : Int, [V.int j] = [.int k] ∧ -(2 ^ 62) ≤ k ∧ k < 2 ^ 62 ∧ R (Itr 0 k.toNat) H := ⟨j, rfl, h0, h1, q⟩
theorem go_while {c : TT} {tb : TS} (W : Nat → L2.St → Hp → Prop) (m0 : Nat) (h0 : W m0 σ H)
    (hs : ∀ m σ H, W m σ H → c σ H fun b H1 => if b = true then (∃ N : L2.St → Hp → Prop, (∀ σ' H', N σ' H' → ∃ m', m' < m ∧ W m' σ' H') ∧ tb { D with nx := N, ct := N, bk := D.nx } σ H1) else D.nx σ H1) : tWhile c tb D σ H := ⟨W, ⟨m0, h0⟩, hs⟩
end
/-! ### heaps -/
abbrev Ext := Evl.Ex
theorem mem_new {H : Hp} {p a : Addr} {o u : HO} (np : H p = none) (h : H a = some o) : upd H p u a = some o := by rw [upd_ne (ne_of_none h np)]; exact h
theorem mem_ext {H H' : Hp} {a : Addr} {o : HO} (e : Ext H H') (h : H a = some o) : H' a = some o := e a o h
theorem none_back {H : Hp} {p q : Addr} {o : HO} (h : upd H p o q = none) : H q = none ∧ q ≠ p := by
  by_cases e : q = p
  · subst e; rw [upd_same] at h; cases h
  · rw [upd_ne e] at h; exact ⟨h, e⟩
theorem ext_new {H H' : Hp} {p : Addr} {o : HO} (e : Ext H H') (np : H' p = none) : Ext H (upd H' p o) := e.trans (Evl.Ex.new np)
end At
local macro_rules | `(tactic| walk_at "mem") => `(tactic| first
  | assumption
  | exact L2.upd_same
  | (refine At.mem_new (by assumption) ?_; walk_at "mem")
  | (refine At.mem_ext (by assumption) ?_; walk_at "mem"))

namespace EX
open At L2 PyProof.Rows PySem.Spec PySem
theorem hu_ {A : Around} {k : Nat} (hr : Room k A) : A.units + 64 < cLine := by have := hr.un; omega
/-! ### an own error's facts -/
structure OwnX (K : PySem.W.Frag) (o : Own) : Prop where
  x : XC K (cla K o.nm) o.new o.tail
  i : PySem.W.findIn K (.ref (cla K o.nm)) "__init__" = some (some (.ref (ini_ K o.nm)))
  t : PySem.W.typeIn K (.ref (ini_ K o.nm)) = some (.type "function")
  is : isB K (cla K o.nm) = true
  tk : PySem.W.takerIn K (cla K o.nm) o.fld = some none
  nf : PySem.W.findIn K (.ref (cla K o.nm)) o.fld = some none
section
variable {w : World} {K : PySem.W.Frag} {mg : Str → Option Value} {i j : Nat} {o p : Own}
theorem own_x (T : Top w K mg) (h : owns[i]? = some o) : OwnX K o := by
  have z := List.all_eq_true.mp (He.ba T.ex).1 o (List.mem_of_getElem? h)
  unfold ownB hasI at z
  simp only [Bool.and_eq_true, decide_eq_true_eq] at z
  obtain ⟨a, ⟨b, c⟩, d, e, f⟩ := z
  exact ⟨xcB_ok a, b, c, d, e, f⟩
theorem row_at (T : Top w K mg) (h : owns[i]? = some o) : row K i o = true := by
  have z := (He.ba (He.ba T.ex).2).1
  refine List.all_eq_true.mp z _ (List.mem_of_getElem? (i := i) ?_)
  rw [List.getElem?_mapIdx, h]
  rfl
theorem kin (T : Top w K mg) (h : owns[i]? = some o) (hj : owns[j]? = some p) : PySem.W.kitOne K (.ref (cla K o.nm)) (.ref (cla K p.nm)) = some (decide (i = j)) := by
  have z := (He.ba (row_at T h)).1
  refine of_decide_eq_true (List.all_eq_true.mp z _ (List.mem_of_getElem? (i := j) ?_))
  rw [List.getElem?_mapIdx, hj]
  rfl
theorem kin6 (T : Top w K mg) (h : owns[i]? = some o) : PySem.W.kitOne K (.ref (cla K o.nm)) (.ref (cla K "WrongValue")) = some (decide (i < 15)) ∧ PySem.W.kitOne K (.ref (cla K o.nm)) (.ref (cla K "WrongName")) = some (decide (15 ≤ i) && decide (i < 17)) ∧
    PySem.W.kitOne K (.ref (cla K o.nm)) (.ref (cla K "NoAnswer")) = some (decide (17 ≤ i)) ∧ PySem.W.kitOne K (.ref (cla K o.nm)) (.type "ValueError") = some (decide (i < 15)) ∧
    PySem.W.kitOne K (.ref (cla K o.nm)) (.type "LookupError") = some (decide (15 ≤ i) && decide (i < 17)) ∧ PySem.W.kitOne K (.ref (cla K o.nm)) (.type "ArithmeticError") = some (decide (17 ≤ i)) := by
  have z := (He.ba (row_at T h)).2
  unfold kinB at z
  simp only [Bool.and_eq_true, decide_eq_true_eq] at z
  simpa using z
end
theorem Err.new {H : Hp} {a C p : Addr} {u : HO} (e : Err H a C) (n : H p = none) : Err (upd H p u) a C := by
  rcases e with e | ⟨dx, fs, e1, e2⟩
  · exact .inl (mem_new n e)
  · exact .inr ⟨dx, fs, mem_new n e1, mem_new n e2⟩
theorem go_isE {K : PySem.W.Frag} {a C : Addr} {c : V} {u : Value} {b : Bool} {H : Hp} {Q : VK} (er : Err H a C) (x : XfC K C) (is : isB K C = true) (cl : ClsV c u) (k : PySem.W.kitOne K (.ref C) u = some b) (q : Q (.bl b) H) : rIsE K [.ref a, c] H Q := ⟨a, C, c, u, b, rfl, er, x, is, cl, k, q⟩
theorem go_cat {l b : Addr} {xs zs : List V} {H : Hp} {Q : VK} (h1 : H l = some (.lst xs)) (h2 : H b = some (.lst zs)) (hz : xs.length + zs.length ≤ 1000) (q : ∀ p, H p = none → Q (.ref p) (upd H p (.lst (xs ++ zs)))) : rCat (.ref l) (.ref b) H Q :=
  ⟨l, b, xs, zs, rfl, rfl, h1, h2, by rw [sizeLine_eq]; omega, q⟩
theorem e_none {H G : Hp} {p : Addr} (e : Ext H G) (n : G p = none) : H p = none := by
  cases h : H p with
  | none => rfl
  | some o => rw [e p o h] at n; cases n
theorem upd_upd {H : Hp} {p : Addr} {o u : HO} : upd (upd H p o) p u = upd H p u := by
  funext b
  by_cases h : b = p
  · subst h; rw [upd_same, upd_same]
  · rw [upd_ne h, upd_ne h, upd_ne h]
theorem pe_fldK {X : Cx} {K : PySem.W.Frag} {e : Expr} {te : TE} {f : Str} {pos : Pos} (he : PE X e te) (hb : attributeBase e f X.env (eval e X.env) = eval e X.env := by rfl) (eK : X.K = K := by rfl) : PE X (.Attribute e f pos) (EX.tFld K f te) := by
  subst eK
  exact EX.pe_fld he hb
theorem ix_l {X : Cx} {K : PySem.W.Frag} (e : X.K = K := by rfl) : IxR X (rIxL K) := by
  subst e
  exact ix_list
/-! ### errors that are made -/
/-- the error at a keeps v (or nothing) in its field f -/
def Keeps (H : Hp) (a C : Addr) (f : Str) : Option V → Prop
  | some v => ∃ dx, H a = some (exo a C (some dx)) ∧ H dx = some (exd dx [(f, v)])
  | none => H a = some (exo a C none)
theorem Keeps.err {H : Hp} {a C : Addr} {f : Str} {v : Option V} (k : Keeps H a C f v) : Err H a C := by
  cases v with
  | none => exact .inl k
  | some v =>
    obtain ⟨dx, e1, e2⟩ := k
    exact .inr ⟨dx, _, e1, e2⟩
theorem Keeps.mono {H H' : Hp} {a C : Addr} {f : Str} {v : Option V} (k : Keeps H a C f v) (e : Ext H H') : Keeps H' a C f v := by
  cases v with
  | none => exact e _ _ k
  | some v =>
    obtain ⟨dx, e1, e2⟩ := k
    exact ⟨dx, e _ _ e1, e _ _ e2⟩
/-- the errors at these addresses keep these -/
def Good (K : PySem.W.Frag) (H : Hp) : List Addr → List (Own × Option V) → Prop
  | [], [] => True
  | a :: as, p :: ps => Keeps H a (cla K p.1.nm) p.1.fld p.2 ∧ Good K H as ps
  | _, _ => False
theorem Good.mono {K : PySem.W.Frag} {H H' : Hp} (e : Ext H H') : ∀ {as : List Addr} {ps : List (Own × Option V)}, Good K H as ps → Good K H' as ps
  | [], [], _ => trivial
  | _ :: _, _ :: _, g => ⟨g.1.mono e, Good.mono e g.2⟩
theorem Good.append {K : PySem.W.Frag} {H : Hp} {bs : List Addr} {qs : List (Own × Option V)} (h : Good K H bs qs) : ∀ {as : List Addr} {ps : List (Own × Option V)}, Good K H as ps → Good K H (as ++ bs) (ps ++ qs)
  | [], [], _ => h
  | _ :: _, _ :: _, g => ⟨g.1, Good.append h g.2⟩
theorem Good.at_ {K : PySem.W.Frag} {H : Hp} : ∀ {as : List Addr} {ps : List (Own × Option V)} {i : Nat} {a : Addr}, Good K H as ps → as[i]? = some a → ∃ p, ps[i]? = some p ∧ Keeps H a (cla K p.1.nm) p.1.fld p.2
  | a :: as, p :: ps, 0, b, g, h => by
    cases h
    exact ⟨p, rfl, g.1⟩
  | _ :: as, _ :: ps, i + 1, b, g, h => Good.at_ (as := as) (ps := ps) (i := i) g.2 h
  | [], _, _, _, _, h => (nomatch h)
theorem go_new {K : PySem.W.Frag} {o : Own} {v : V} {H : Hp} {Q : VK} (X : OwnX K o) (q : ∀ a H', H a = none → Ext H H' → Keeps H' a (cla K o.nm) o.fld (some v) → Q (.ref a) H') : rNew (cla K o.nm) (spIni K o.new o.tail o.fld) [v] H Q := fun a na =>
  ⟨a, _, v, rfl, X.x, X.tk, upd_same, fun dx nd ne => ⟨rfl, q a _ na (fun b u hb => by
    have h1 : b ≠ a := ne_of_none hb na
    have h2 : b ≠ dx := ne_of_none (o := u) (mem_new na hb) nd
    rw [upd_ne h1, upd_ne h2, upd_ne h1]
    exact hb) ⟨dx, upd_same, by rw [upd_ne ne, upd_same]⟩⟩⟩
theorem go_new0 {K : PySem.W.Frag} {o : Own} {H : Hp} {Q : VK} (X : OwnX K o) (e1 : o.new = "ArithmeticError.__new__") (e2 : o.tail = AE) (q : ∀ a H', H a = none → Ext H H' → Keeps H' a (cla K o.nm) o.fld none → Q (.ref a) H') :
    rNew (cla K o.nm) (spUp K "ArithmeticError.__new__" AE) [] H Q := fun a na =>
  ⟨a, _, rfl, by rw [← e1, ← e2]; exact X.x, upd_same, rfl, q a _ na (fun b u hb => mem_new na hb) upd_same⟩
theorem ext_trans {H H1 H2 : Hp} (a : Ext H H1) (b : Ext H1 H2) : Ext H H2 := fun _ _ z => b _ _ (a _ _ z)
theorem ext_lst {H : Hp} {p : Addr} {o : HO} (n : H p = none) : Ext H (upd H p o) := fun _ _ z => mem_new n z
def strA : V := .str "a"
/-- the first ten -/
def ten : List (Own × Option V) := (owns.take 10).map fun o => (o, some strA)
def spWrong (K : PySem.W.Frag) : Sp := fun vs H Q _ => vs = [] ∧ ∀ (as : List Addr) H' p, as.length = 10 → Good K H' as ten → Ext H H' → H p = none → H' p = some (.lst (as.map V.ref)) → Q (.ref p) H'
/-- which of the six bases the i-th error has -/
def kinds (i : Nat) : List V := [.bl (decide (i < 15)), .bl (decide (15 ≤ i) && decide (i < 17)), .bl (decide (17 ≤ i))] ++ [.bl (decide (i < 15)), .bl (decide (15 ≤ i) && decide (i < 17)), .bl (decide (17 ≤ i))]
def spOf (K : PySem.W.Frag) (f : Nat → List V) : Sp := fun vs H Q _ => ∃ a i o, vs = [V.ref a] ∧ owns[i]? = some o ∧ Err H a (cla K o.nm) ∧ ∀ H' p, Ext H H' → H p = none → H' p = some (.lst (f i)) → Q (.ref p) H'
abbrev Def (P : Program) (w : World) (K : PySem.W.Frag) (mg : Str → Option Value) (base : Heap) (k : Nat) (x : Str) (ps : List Str) (sp : Sp) : Prop :=
  ∃ fd, FnOk P w K mg base CX0 k (cla K x) fd ps sp ∧ Binds K fd ps [] ∧ PySem.W.keepIn K (.ref (cla K x)) = true
end EX

local macro_rules | `(tactic| walk_at "mem") => `(tactic| first
  | assumption
  | exact L2.upd_same
  | (refine At.mem_new (by assumption) ?_; walk_at "mem")
  | (refine At.mem_ext (by assumption) ?_; walk_at "mem"))
local macro_rules | `(tactic| walk_at "side") => `(tactic| first
  | decide
  | omega
  | (dsimp only; omega)
  | exact Or.inl ⟨by omega, by omega⟩
  | exact Or.inr ⟨by omega, by omega⟩
  | exact ⟨by omega, by omega⟩)
local macro_rules | `(tactic| walk_at "go") => `(tactic| first
  | ((with_reducible refine' At.go_var ?hvar ?_); (case hvar => rfl))
  | with_reducible refine At.go_c ?_
  | with_reducible refine At.go_seq_set ?_
  | with_reducible refine At.go_seq_drop ?_
  | with_reducible refine At.go_seq_if ?_
  | with_reducible refine At.go_seq_asg ?_
  | with_reducible refine At.go_seq ?_
  | with_reducible refine At.go_set ?_
  | with_reducible refine At.go_asg ?_
  | with_reducible refine At.go_ret ?_
  | with_reducible refine At.go_retN ?_
  | with_reducible refine At.go_drop ?_
  | with_reducible refine At.go_ifS ?_
  | with_reducible refine At.go_op ?_
  | with_reducible refine At.go_un ?_
  | with_reducible refine At.go_rI0 ?_
  | with_reducible refine At.go_rU ?_
  | ((with_reducible refine' At.go_rI ?hside ?_); (case hside => walk_at "side"))
  | with_reducible refine At.go_rEqI ?_
  | with_reducible refine At.go_rNeI ?_
  | with_reducible refine At.go_rEqS ?_
  | with_reducible refine At.go_rNeS ?_
  | with_reducible refine At.go_bl ?_
  | with_reducible refine At.go_test ?_
  | with_reducible refine At.go_tB ?_
  | with_reducible refine At.go_and ?_
  | with_reducible refine At.go_or ?_
  | with_reducible refine At.go_not ?_
  | with_reducible refine At.go_andV ?_
  | with_reducible refine At.go_orV ?_
  | with_reducible refine At.go_notV ?_
  | with_reducible refine At.go_tIf ?_
  | with_reducible refine At.go_chain ?_
  | with_reducible refine At.go_cons ?_
  | with_reducible refine At.go_nil ?_
  | with_reducible refine At.go_cb ?_
  | with_reducible refine At.go_call ?_
  | with_reducible refine At.go_tup ?_
  | with_reducible refine At.go_lst ?_
  | with_reducible refine At.go_sl ?_
  | with_reducible refine At.go_noPart ?_
  | with_reducible refine At.go_part ?_
  | with_reducible refine At.go_gName ?_
  | with_reducible refine At.go_gSub ?_
  | with_reducible refine At.go_gCons ?_
  | with_reducible refine At.go_gNil ?_
  | with_reducible refine At.go_par ?_
  | with_reducible refine At.go_par3 ?_
  | with_reducible refine At.go_two ?_
  | with_reducible refine At.go_three ?_
  | with_reducible refine At.go_for ?_
  | with_reducible refine At.go_iRng1 ?_
  | with_reducible refine At.go_iRng2 ?_
  | with_reducible refine At.go_iteT ?_
  | with_reducible refine At.go_iteF ?_
  | with_reducible refine At.go_iteNT ?_
  | with_reducible refine At.go_iteNF ?_
  | with_reducible refine At.go_next ?_
  | with_reducible refine At.go_ipI ?_
  | with_reducible refine At.go_augS ?_
  | with_reducible refine At.go_revL ?_
  | ((with_reducible refine' At.go_aug ?hvar ?_); (case hvar => rfl))
  | with_reducible refine ⟨_, rfl, ?_⟩
  | with_reducible refine ⟨_, _, rfl, ?_⟩
  | with_reducible refine ⟨_, _, rfl, rfl, ?_⟩
  | with_reducible refine ⟨Evl.sz_of (Nat.le_of_ble_eq_true rfl), ?_⟩)
local macro_rules | `(tactic| walk_at "gos") => `(tactic| repeat walk_at "go")
namespace EX
open At L2 PyProof.Rows PySem.Spec PySem
section
variable {P : Program} {base : Heap} {w : World} {K : PySem.W.Frag} {mg : Str → Option Value}
abbrev N__law_kinds : List Str := ["_law_e", "_law_found"]
theorem sc__law_kinds : FnScope N__law_kinds ["_law_e"] (defScope (top 38)) := ⟨rfl, rfl, rfl, by decide +kernel, rfl, by decide +kernel, by decide +kernel⟩
abbrev s__law_kinds : Stmt := top 38
theorem fn__law_kinds (T : Top w K mg) : Def P w K mg base 1 "_law_kinds" ["_law_e"] (spOf K kinds) := by
  obtain ⟨fd, F⟩ := T.def_ 1
  have F : FunD K "_law_kinds" "_law_kinds" (defArgs (top 38)) (defBody (top 38)) (defScope (top 38)) [] [] (cla K "_law_kinds") fd := F
  refine ⟨fd, F.ok sc__law_kinds (fun vs H Q E h => ?len) (fun cdv A outer s H vs Q E hr h => ⟨_, PSs.nox (pss_cons (ps_set (i := 1) sc__law_kinds.nd rfl (Or.inl rfl) (pe_lst (pa_cons (pe_callB call_isE_ (by rfl) T.b_isinstance (by decide +kernel) (pa_cons (pv 0) (pa_cons (pe_glob (v := .ref _) rfl T.g_WrongValue rfl) pa_nil))) (pa_cons (pe_callB call_isE_ (by rfl) T.b_isinstance (by decide +kernel) (pa_cons (pv 0) (pa_cons (pe_glob (v := .ref _) rfl T.g_WrongName rfl) pa_nil))) (pa_cons (pe_callB call_isE_ (by rfl) T.b_isinstance (by decide +kernel) (pa_cons (pv 0) (pa_cons (pe_glob (v := .ref _) rfl T.g_NoAnswer rfl) pa_nil))) pa_nil)))))
    (pss_one (ps_ret (pe_op op_cat (pv 1) (pe_lst (pa_cons (pe_callB call_isE_ (by rfl) T.b_isinstance (by decide +kernel) (pa_cons (pv 0) (pa_cons (pe_bltn (v := .ty "ValueError") (by rfl) T.b_ValueError (by decide +kernel) rfl) pa_nil))) (pa_cons (pe_callB call_isE_ (by rfl) T.b_isinstance (by decide +kernel) (pa_cons (pv 0) (pa_cons (pe_bltn (v := .ty "LookupError") (by rfl) T.b_LookupError (by decide +kernel) rfl) pa_nil))) (pa_cons (pe_callB call_isE_ (by rfl) T.b_isinstance (by decide +kernel) (pa_cons (pv 0) (pa_cons (pe_bltn (v := .ty "ArithmeticError") (by rfl) T.b_ArithmeticError (by decide +kernel) rfl) pa_nil))) pa_nil)))))))), ?rd⟩), F.bindsN fun _ _ _ _ _ _ us hl => (match us, hl with | [_], _ => rfl), F.kp⟩
  case len =>
    obtain ⟨_, _, _, rfl, _⟩ := h
    rfl
  case rd =>
    obtain ⟨a, i, o, rfl, ho, er, q⟩ := h
    have X := own_x T ho
    obtain ⟨k1, k2, k3, k4, k5, k6⟩ := kin6 T ho
    walk_at "gos"
    refine go_isE er X.x.rd X.is (.own _) k1 ?_
    walk_at "gos"
    refine go_isE er X.x.rd X.is (.own _) k2 ?_
    walk_at "gos"
    refine go_isE er X.x.rd X.is (.own _) k3 ?_
    walk_at "gos"
    intro p1 n1
    have er1 := fun (u : HO) => er.new (u := u) n1
    walk_at "gos"
    refine go_isE (er1 _) X.x.rd X.is (.ty _) k4 ?_
    walk_at "gos"
    refine go_isE (er1 _) X.x.rd X.is (.ty _) k5 ?_
    walk_at "gos"
    refine go_isE (er1 _) X.x.rd X.is (.ty _) k6 ?_
    walk_at "gos"
    intro p2 n2
    refine go_cat (mem_new n2 upd_same) upd_same (Nat.le_of_ble_eq_true rfl) fun p3 n3 => ?_
    exact q _ p3 (ext_new (ext_new (ext_new (fun _ _ z => z) n1) n2) n3) (none_back (none_back n3).1).1 upd_same
end
end EX

namespace EX
open At L2 PyProof.Rows PySem.Spec PySem
section
variable {P : Program} {base : Heap} {w : World} {K : PySem.W.Frag} {mg : Str → Option Value}
abbrev N__law_own : List Str := ["_law_e", "_law_found", "_law_at"]
theorem sc__law_own : FnScope N__law_own ["_law_e"] (defScope (top 39)) := ⟨rfl, rfl, rfl, by decide +kernel, rfl, by decide +kernel, by decide +kernel⟩
abbrev s__law_own : Stmt := top 39
def bits (i : Nat) : List V := (List.range 21).map fun j => V.bl (decide (i = j))
def got (i n : Nat) : List V := if i < n then [V.int i] else []
theorem own_end {a p : Addr} {H G : Hp} {i : Nat} {Q : VK} (hi : i < 21) (e : Ext H G) (f : G p = some (.lst (bits i))) (q : ∀ H' p, Ext H H' → H p = none → H' p = some (.lst [V.int i]) → Q (.ref p) H') :
    tRet (tLc (iRng1 (tCons (tC (V.int 21)) tNil)) (gName 2) (tB (tOp (rIxL K) (tVar 1) (tVar 2))) (tVar 2) [2]) { nx := fun _ H' => Q V.non H', rt := Q } [some (V.ref a), some (V.ref p), none] G := by
  walk_at "gos"
  unfold tLc
  walk_at "gos"
  refine ⟨by decide, by decide, ?_⟩
  intro D nD
  refine lc_range (lo := 0) (n := 21) (fun n Hn => Hn = upd G D (.lst (got i n))) rfl (fun n Hn hn z => ?_) fun Hn z => ?_
  · subst z
    refine ⟨rfl, ?_⟩
    have at_ : atI (bits i) (0 + (n : Int)) = some (V.bl (decide (i = n))) := by
      rw [Int.zero_add]
      refine atI_nat ?_
      unfold bits
      rw [List.getElem?_map, List.getElem?_range hn]
      rfl
    walk_at "gos"
    refine go_rIxL (SqL.of (mem_new nD f)) at_ ?_
    walk_at "gos"
    refine go_ite (fun c => ?_) fun c => ?_
    · subst c
      walk_at "gos"
      refine ⟨got i i, upd_same, by unfold got; rw [if_neg (Nat.lt_irrefl i), sizeLine_eq]; decide, ?_⟩
      have g1 : got i (i + 1) = got i i ++ [V.int (0 + (i : Int))] := by
        unfold got
        rw [if_pos (Nat.lt_succ_self i), if_neg (Nat.lt_irrefl i), Int.zero_add]
        rfl
      rw [g1, upd_upd]
    · have g1 : got i (n + 1) = got i n := by
        unfold got
        by_cases h : i < n
        · rw [if_pos (show i < n + 1 by omega), if_pos h]
        · rw [if_neg (show ¬ i < n + 1 by omega), if_neg h]
      rw [g1]
  · subst z
    have g1 : got i 21 = [V.int i] := if_pos hi
    rw [g1]
    exact q _ D (ext_new e nD) (e_none e nD) upd_same
theorem fn__law_own (T : Top w K mg) : Def P w K mg base 1 "_law_own" ["_law_e"] (spOf K (fun i => [.int i])) := by
  obtain ⟨fd, F⟩ := T.def_ 2
  have F : FunD K "_law_own" "_law_own" (defArgs (top 39)) (defBody (top 39)) (defScope (top 39)) [] [] (cla K "_law_own") fd := F
  refine ⟨fd, F.ok sc__law_own (fun vs H Q E h => ?len) (fun cdv A outer s H vs Q E hr h => ⟨_, PSs.nox (pss_cons (ps_set (i := 1) sc__law_own.nd rfl (Or.inr rfl) (pe_lst (pa_cons (pe_callB call_isE_ (by rfl) T.b_isinstance (by decide +kernel) (pa_cons (pv 0) (pa_cons (pe_glob (v := .ref _) rfl T.g_InvalidNumber rfl) pa_nil))) (pa_cons (pe_callB call_isE_ (by rfl) T.b_isinstance (by decide +kernel) (pa_cons (pv 0) (pa_cons (pe_glob (v := .ref _) rfl T.g_InvalidNaming rfl) pa_nil))) (pa_cons (pe_callB call_isE_ (by rfl) T.b_isinstance (by decide +kernel) (pa_cons (pv 0) (pa_cons (pe_glob (v := .ref _) rfl T.g_InvalidPlace rfl) pa_nil))) pa_nil)))))
    (pss_cons (ps_set (i := 1) sc__law_own.nd rfl (Or.inr rfl) (pe_op op_cat (pv 1) (pe_lst (pa_cons (pe_callB call_isE_ (by rfl) T.b_isinstance (by decide +kernel) (pa_cons (pv 0) (pa_cons (pe_glob (v := .ref _) rfl T.g_InvalidName rfl) pa_nil))) (pa_cons (pe_callB call_isE_ (by rfl) T.b_isinstance (by decide +kernel) (pa_cons (pv 0) (pa_cons (pe_glob (v := .ref _) rfl T.g_InvalidClaim rfl) pa_nil))) (pa_cons (pe_callB call_isE_ (by rfl) T.b_isinstance (by decide +kernel) (pa_cons (pv 0) (pa_cons (pe_glob (v := .ref _) rfl T.g_InvalidIndex rfl) pa_nil))) pa_nil))))))
    (pss_cons (ps_set (i := 1) sc__law_own.nd rfl (Or.inr rfl) (pe_op op_cat (pv 1) (pe_lst (pa_cons (pe_callB call_isE_ (by rfl) T.b_isinstance (by decide +kernel) (pa_cons (pv 0) (pa_cons (pe_glob (v := .ref _) rfl T.g_InvalidLine rfl) pa_nil))) (pa_cons (pe_callB call_isE_ (by rfl) T.b_isinstance (by decide +kernel) (pa_cons (pv 0) (pa_cons (pe_glob (v := .ref _) rfl T.g_InvalidBound rfl) pa_nil))) (pa_cons (pe_callB call_isE_ (by rfl) T.b_isinstance (by decide +kernel) (pa_cons (pv 0) (pa_cons (pe_glob (v := .ref _) rfl T.g_NotAStanding rfl) pa_nil))) pa_nil))))))
    (pss_cons (ps_set (i := 1) sc__law_own.nd rfl (Or.inr rfl) (pe_op op_cat (pv 1) (pe_lst (pa_cons (pe_callB call_isE_ (by rfl) T.b_isinstance (by decide +kernel) (pa_cons (pv 0) (pa_cons (pe_glob (v := .ref _) rfl T.g_NotAWeb rfl) pa_nil))) (pa_cons (pe_callB call_isE_ (by rfl) T.b_isinstance (by decide +kernel) (pa_cons (pv 0) (pa_cons (pe_glob (v := .ref _) rfl T.g_InvalidNumbers rfl) pa_nil))) (pa_cons (pe_callB call_isE_ (by rfl) T.b_isinstance (by decide +kernel) (pa_cons (pv 0) (pa_cons (pe_glob (v := .ref _) rfl T.g_InvalidTurns rfl) pa_nil))) pa_nil))))))
    (pss_cons (ps_set (i := 1) sc__law_own.nd rfl (Or.inr rfl) (pe_op op_cat (pv 1) (pe_lst (pa_cons (pe_callB call_isE_ (by rfl) T.b_isinstance (by decide +kernel) (pa_cons (pv 0) (pa_cons (pe_glob (v := .ref _) rfl T.g_InvalidRows rfl) pa_nil))) (pa_cons (pe_callB call_isE_ (by rfl) T.b_isinstance (by decide +kernel) (pa_cons (pv 0) (pa_cons (pe_glob (v := .ref _) rfl T.g_InvalidRemainders rfl) pa_nil))) (pa_cons (pe_callB call_isE_ (by rfl) T.b_isinstance (by decide +kernel) (pa_cons (pv 0) (pa_cons (pe_glob (v := .ref _) rfl T.g_InvalidDeeds rfl) pa_nil))) pa_nil))))))
    (pss_cons (ps_set (i := 1) sc__law_own.nd rfl (Or.inr rfl) (pe_op op_cat (pv 1) (pe_lst (pa_cons (pe_callB call_isE_ (by rfl) T.b_isinstance (by decide +kernel) (pa_cons (pv 0) (pa_cons (pe_glob (v := .ref _) rfl T.g_UnknownName rfl) pa_nil))) (pa_cons (pe_callB call_isE_ (by rfl) T.b_isinstance (by decide +kernel) (pa_cons (pv 0) (pa_cons (pe_glob (v := .ref _) rfl T.g_InUse rfl) pa_nil))) (pa_cons (pe_callB call_isE_ (by rfl) T.b_isinstance (by decide +kernel) (pa_cons (pv 0) (pa_cons (pe_glob (v := .ref _) rfl T.g_TooGreat rfl) pa_nil))) pa_nil))))))
    (pss_cons (ps_set (i := 1) sc__law_own.nd rfl (Or.inr rfl) (pe_op op_cat (pv 1) (pe_lst (pa_cons (pe_callB call_isE_ (by rfl) T.b_isinstance (by decide +kernel) (pa_cons (pv 0) (pa_cons (pe_glob (v := .ref _) rfl T.g_TooMany rfl) pa_nil))) (pa_cons (pe_callB call_isE_ (by rfl) T.b_isinstance (by decide +kernel) (pa_cons (pv 0) (pa_cons (pe_glob (v := .ref _) rfl T.g_NothingToUndo rfl) pa_nil))) (pa_cons (pe_callB call_isE_ (by rfl) T.b_isinstance (by decide +kernel) (pa_cons (pv 0) (pa_cons (pe_glob (v := .ref _) rfl T.g_Broken rfl) pa_nil))) pa_nil))))))
    (pss_one (ps_ret (pe_lc (own := [("_law_at", 2)]) (g := gName 2)  (by rfl) sc__law_own.nd (pi_range1 (by rfl) T.b_range (pa_cons pe_int pa_nil)) (blkOk_by (own := [("_law_at", 2)]) (N := N__law_own) (sc := defScope (top 39)) (by decide +kernel)) (fun _ _ _ _ _ => pg_name (i := 2) sc__law_own.nd rfl (Or.inl rfl)) (fun _ _ _ _ _ => (pts_one (pt_val (pe_ix (ix_l (K := K)) (pv 1) (pv 2) (fun _ _ => rfl))))) (fun _ _ _ _ _ => (pv 2)))))))))))), ?rd⟩), F.bindsN fun _ _ _ _ _ _ us hl => (match us, hl with | [_], _ => rfl), F.kp⟩
  case len =>
    obtain ⟨_, _, _, rfl, _⟩ := h
    rfl
  case rd =>
    obtain ⟨a, i, o, rfl, ho, er0, q⟩ := h
    have X := own_x T ho
    have e0 : Ext H H := fun _ _ z => z
    walk_at "gos"
    refine go_isE er0 X.x.rd X.is (.own _) (kin T ho (j := 0) rfl) ?_
    walk_at "gos"
    refine go_isE er0 X.x.rd X.is (.own _) (kin T ho (j := 1) rfl) ?_
    walk_at "gos"
    refine go_isE er0 X.x.rd X.is (.own _) (kin T ho (j := 2) rfl) ?_
    walk_at "gos"
    intro p0 n0
    have er1 := fun (u : HO) => er0.new (u := u) n0
    have e1 := fun (u : HO) => ext_new (o := u) e0 n0
    have m0 : ∀ u : HO, upd H p0 u p0 = some u := fun u => upd_same
    walk_at "gos"
    refine go_isE (er1 _) X.x.rd X.is (.own _) (kin T ho (j := 3) rfl) ?_
    walk_at "gos"
    refine go_isE (er1 _) X.x.rd X.is (.own _) (kin T ho (j := 4) rfl) ?_
    walk_at "gos"
    refine go_isE (er1 _) X.x.rd X.is (.own _) (kin T ho (j := 5) rfl) ?_
    walk_at "gos"
    intro a1 na1
    refine go_cat (mem_new na1 upd_same) upd_same (Nat.le_of_ble_eq_true rfl) fun p1 n1 => ?_
    have er2 := fun (u : HO) => ((er1 _).new (u := .lst _) na1).new (u := u) n1
    walk_at "gos"
    refine go_isE (er2 _) X.x.rd X.is (.own _) (kin T ho (j := 6) rfl) ?_
    walk_at "gos"
    refine go_isE (er2 _) X.x.rd X.is (.own _) (kin T ho (j := 7) rfl) ?_
    walk_at "gos"
    refine go_isE (er2 _) X.x.rd X.is (.own _) (kin T ho (j := 8) rfl) ?_
    walk_at "gos"
    intro a2 na2
    refine go_cat (mem_new na2 upd_same) upd_same (Nat.le_of_ble_eq_true rfl) fun p2 n2 => ?_
    have er3 := fun (u : HO) => ((er2 _).new (u := .lst _) na2).new (u := u) n2
    walk_at "gos"
    refine go_isE (er3 _) X.x.rd X.is (.own _) (kin T ho (j := 9) rfl) ?_
    walk_at "gos"
    refine go_isE (er3 _) X.x.rd X.is (.own _) (kin T ho (j := 10) rfl) ?_
    walk_at "gos"
    refine go_isE (er3 _) X.x.rd X.is (.own _) (kin T ho (j := 11) rfl) ?_
    walk_at "gos"
    intro a3 na3
    refine go_cat (mem_new na3 upd_same) upd_same (Nat.le_of_ble_eq_true rfl) fun p3 n3 => ?_
    have er4 := fun (u : HO) => ((er3 _).new (u := .lst _) na3).new (u := u) n3
    walk_at "gos"
    refine go_isE (er4 _) X.x.rd X.is (.own _) (kin T ho (j := 12) rfl) ?_
    walk_at "gos"
    refine go_isE (er4 _) X.x.rd X.is (.own _) (kin T ho (j := 13) rfl) ?_
    walk_at "gos"
    refine go_isE (er4 _) X.x.rd X.is (.own _) (kin T ho (j := 14) rfl) ?_
    walk_at "gos"
    intro a4 na4
    refine go_cat (mem_new na4 upd_same) upd_same (Nat.le_of_ble_eq_true rfl) fun p4 n4 => ?_
    have er5 := fun (u : HO) => ((er4 _).new (u := .lst _) na4).new (u := u) n4
    walk_at "gos"
    refine go_isE (er5 _) X.x.rd X.is (.own _) (kin T ho (j := 15) rfl) ?_
    walk_at "gos"
    refine go_isE (er5 _) X.x.rd X.is (.own _) (kin T ho (j := 16) rfl) ?_
    walk_at "gos"
    refine go_isE (er5 _) X.x.rd X.is (.own _) (kin T ho (j := 17) rfl) ?_
    walk_at "gos"
    intro a5 na5
    refine go_cat (mem_new na5 upd_same) upd_same (Nat.le_of_ble_eq_true rfl) fun p5 n5 => ?_
    have er6 := fun (u : HO) => ((er5 _).new (u := .lst _) na5).new (u := u) n5
    walk_at "gos"
    refine go_isE (er6 _) X.x.rd X.is (.own _) (kin T ho (j := 18) rfl) ?_
    walk_at "gos"
    refine go_isE (er6 _) X.x.rd X.is (.own _) (kin T ho (j := 19) rfl) ?_
    walk_at "gos"
    refine go_isE (er6 _) X.x.rd X.is (.own _) (kin T ho (j := 20) rfl) ?_
    walk_at "gos"
    intro a6 na6
    refine go_cat (mem_new na6 upd_same) upd_same (Nat.le_of_ble_eq_true rfl) fun p6 n6 => ?_
    exact own_end (List.getElem?_eq_some_iff.mp ho).1 (ext_new (ext_new (ext_new (ext_new (ext_new (ext_new (ext_new (ext_new (ext_new (ext_new (ext_new (ext_new (ext_new e0 n0) na1) n1) na2) n2) na3) n3) na4) n4) na5) n5) na6) n6) upd_same q
end
end EX

namespace EX
open At L2 PyProof.Rows PySem.Spec PySem
section
variable {P : Program} {base : Heap} {w : World} {K : PySem.W.Frag} {mg : Str → Option Value}
abbrev N__law_wrong_values : List Str := ["_law_found"]
theorem sc__law_wrong_values : FnScope N__law_wrong_values [] (defScope (top 37)) := ⟨rfl, rfl, rfl, by decide +kernel, rfl, by decide +kernel, by decide +kernel⟩
abbrev s__law_wrong_values : Stmt := top 37
theorem fn__law_wrong_values (T : Top w K mg) : Def P w K mg base 3 "_law_wrong_values" [] (spWrong K) := by
  obtain ⟨fd, F⟩ := T.def_ 0
  have F : FunD K "_law_wrong_values" "_law_wrong_values" (defArgs (top 37)) (defBody (top 37)) (defScope (top 37)) [] [] (cla K "_law_wrong_values") fd := F
  have X_InvalidClaim : OwnX K ⟨"InvalidClaim", "ValueError.__new__", VE, "given"⟩ := own_x T (i := 4) rfl
  obtain ⟨_, F_InvalidClaim, b_InvalidClaim, n_InvalidClaim⟩ := ok_InvalidClaim (P := P) (base := base) T
  have X_InvalidName : OwnX K ⟨"InvalidName", "ValueError.__new__", VE, "given"⟩ := own_x T (i := 3) rfl
  obtain ⟨_, F_InvalidName, b_InvalidName, n_InvalidName⟩ := ok_InvalidName (P := P) (base := base) T
  have X_InvalidPlace : OwnX K ⟨"InvalidPlace", "ValueError.__new__", VE, "given"⟩ := own_x T (i := 2) rfl
  obtain ⟨_, F_InvalidPlace, b_InvalidPlace, n_InvalidPlace⟩ := ok_InvalidPlace (P := P) (base := base) T
  have X_InvalidNaming : OwnX K ⟨"InvalidNaming", "ValueError.__new__", VE, "given"⟩ := own_x T (i := 1) rfl
  obtain ⟨_, F_InvalidNaming, b_InvalidNaming, n_InvalidNaming⟩ := ok_InvalidNaming (P := P) (base := base) T
  have X_InvalidNumber : OwnX K ⟨"InvalidNumber", "ValueError.__new__", VE, "given"⟩ := own_x T (i := 0) rfl
  obtain ⟨_, F_InvalidNumber, b_InvalidNumber, n_InvalidNumber⟩ := ok_InvalidNumber (P := P) (base := base) T
  have X_NotAStanding : OwnX K ⟨"NotAStanding", "ValueError.__new__", VE, "given"⟩ := own_x T (i := 8) rfl
  obtain ⟨_, F_NotAStanding, b_NotAStanding, n_NotAStanding⟩ := ok_NotAStanding (P := P) (base := base) T
  have X_InvalidBound : OwnX K ⟨"InvalidBound", "ValueError.__new__", VE, "given"⟩ := own_x T (i := 7) rfl
  obtain ⟨_, F_InvalidBound, b_InvalidBound, n_InvalidBound⟩ := ok_InvalidBound (P := P) (base := base) T
  have X_InvalidLine : OwnX K ⟨"InvalidLine", "ValueError.__new__", VE, "given"⟩ := own_x T (i := 6) rfl
  obtain ⟨_, F_InvalidLine, b_InvalidLine, n_InvalidLine⟩ := ok_InvalidLine (P := P) (base := base) T
  have X_InvalidIndex : OwnX K ⟨"InvalidIndex", "ValueError.__new__", VE, "given"⟩ := own_x T (i := 5) rfl
  obtain ⟨_, F_InvalidIndex, b_InvalidIndex, n_InvalidIndex⟩ := ok_InvalidIndex (P := P) (base := base) T
  have X_NotAWeb : OwnX K ⟨"NotAWeb", "ValueError.__new__", VE, "given"⟩ := own_x T (i := 9) rfl
  obtain ⟨_, F_NotAWeb, b_NotAWeb, n_NotAWeb⟩ := ok_NotAWeb (P := P) (base := base) T
  refine ⟨fd, F.ok sc__law_wrong_values (fun vs H Q E h => ?len) (fun cdv A outer s H vs Q E hr h => ⟨_, PSs.nox (pss_cons (ps_set (i := 0) sc__law_wrong_values.nd rfl (Or.inl rfl) (pe_lst (pa_cons (pe_new FBV X_InvalidNumber.x X_InvalidNumber.i X_InvalidNumber.t F_InvalidNumber (hr.mono (by decide)) b_InvalidNumber (by rfl) T.g_InvalidNumber (pa_cons pe_str pa_nil)) (pa_cons (pe_newK FBV X_InvalidNaming.x X_InvalidNaming.i X_InvalidNaming.t F_InvalidNaming (hr.mono (by decide)) n_InvalidNaming (by rfl) T.g_InvalidNaming (pk_cons pe_str pk_nil)) (pa_cons (pe_new FBV X_InvalidPlace.x X_InvalidPlace.i X_InvalidPlace.t F_InvalidPlace (hr.mono (by decide)) b_InvalidPlace (by rfl) T.g_InvalidPlace (pa_cons pe_str pa_nil)) (pa_cons (pe_newK FBV X_InvalidName.x X_InvalidName.i X_InvalidName.t F_InvalidName (hr.mono (by decide)) n_InvalidName (by rfl) T.g_InvalidName (pk_cons pe_str pk_nil)) (pa_cons (pe_new FBV X_InvalidClaim.x X_InvalidClaim.i X_InvalidClaim.t F_InvalidClaim (hr.mono (by decide)) b_InvalidClaim (by rfl) T.g_InvalidClaim (pa_cons pe_str pa_nil)) pa_nil)))))))
    (pss_cons (ps_set (i := 0) sc__law_wrong_values.nd rfl (Or.inl rfl) (pe_op op_cat (pv 0) (pe_lst (pa_cons (pe_newK FBV X_InvalidIndex.x X_InvalidIndex.i X_InvalidIndex.t F_InvalidIndex (hr.mono (by decide)) n_InvalidIndex (by rfl) T.g_InvalidIndex (pk_cons pe_str pk_nil)) (pa_cons (pe_new FBV X_InvalidLine.x X_InvalidLine.i X_InvalidLine.t F_InvalidLine (hr.mono (by decide)) b_InvalidLine (by rfl) T.g_InvalidLine (pa_cons pe_str pa_nil)) (pa_cons (pe_newK FBV X_InvalidBound.x X_InvalidBound.i X_InvalidBound.t F_InvalidBound (hr.mono (by decide)) n_InvalidBound (by rfl) T.g_InvalidBound (pk_cons pe_str pk_nil)) (pa_cons (pe_new FBV X_NotAStanding.x X_NotAStanding.i X_NotAStanding.t F_NotAStanding (hr.mono (by decide)) b_NotAStanding (by rfl) T.g_NotAStanding (pa_cons pe_str pa_nil)) pa_nil)))))))
    (pss_one (ps_ret (pe_op op_cat (pv 0) (pe_lst (pa_cons (pe_newK FBV X_NotAWeb.x X_NotAWeb.i X_NotAWeb.t F_NotAWeb (hr.mono (by decide)) n_NotAWeb (by rfl) T.g_NotAWeb (pk_cons pe_str pk_nil)) pa_nil))))))), ?rd⟩), F.bindsN fun _ _ _ _ _ _ us hl => (match us, hl with | [], _ => rfl), F.kp⟩
  case len =>
    obtain ⟨rfl, _⟩ := h
    rfl
  case rd =>
    obtain ⟨rfl, q⟩ := h
    have e0 : Ext H H := fun _ _ z => z
    walk_at "gos"
    refine ⟨by decide, go_new (own_x T (i := 0) rfl) fun a0 H0 na0 e1 g0 => ?_⟩
    walk_at "gos"
    refine ⟨rfl, go_new (own_x T (i := 1) rfl) fun a1 H1 na1 e2 g1 => ?_⟩
    walk_at "gos"
    refine ⟨by decide, go_new (own_x T (i := 2) rfl) fun a2 H2 na2 e3 g2 => ?_⟩
    walk_at "gos"
    refine ⟨rfl, go_new (own_x T (i := 3) rfl) fun a3 H3 na3 e4 g3 => ?_⟩
    walk_at "gos"
    refine ⟨by decide, go_new (own_x T (i := 4) rfl) fun a4 H4 na4 e5 g4 => ?_⟩
    walk_at "gos"
    intro p0 n0
    walk_at "gos"
    refine ⟨rfl, go_new (own_x T (i := 5) rfl) fun a5 H5 na5 e6 g5 => ?_⟩
    walk_at "gos"
    refine ⟨by decide, go_new (own_x T (i := 6) rfl) fun a6 H6 na6 e7 g6 => ?_⟩
    walk_at "gos"
    refine ⟨rfl, go_new (own_x T (i := 7) rfl) fun a7 H7 na7 e8 g7 => ?_⟩
    walk_at "gos"
    refine ⟨by decide, go_new (own_x T (i := 8) rfl) fun a8 H8 na8 e9 g8 => ?_⟩
    walk_at "gos"
    intro p1 n1
    refine go_cat (mem_new n1 ((ext_trans e6 (ext_trans e7 (ext_trans e8 e9))) _ _ upd_same)) upd_same (Nat.le_of_ble_eq_true rfl) fun c1 m1 => ?_
    walk_at "gos"
    refine ⟨rfl, go_new (own_x T (i := 9) rfl) fun a9 H9 na9 e10 g9 => ?_⟩
    walk_at "gos"
    intro p2 n2
    refine go_cat (mem_new n2 (e10 _ _ upd_same)) upd_same (Nat.le_of_ble_eq_true rfl) fun c2 m2 => ?_
    refine q [a0, a1, a2, a3, a4, a5, a6, a7, a8, a9] _ c2 rfl ⟨g0.mono (ext_trans e2 (ext_trans e3 (ext_trans e4 (ext_trans e5 (ext_trans (ext_lst n0) (ext_trans e6 (ext_trans e7 (ext_trans e8 (ext_trans e9 (ext_trans (ext_lst n1) (ext_trans (ext_lst m1) (ext_trans e10 (ext_trans (ext_lst n2) (ext_lst m2)))))))))))))), g1.mono (ext_trans e3 (ext_trans e4 (ext_trans e5 (ext_trans (ext_lst n0) (ext_trans e6 (ext_trans e7 (ext_trans e8 (ext_trans e9 (ext_trans (ext_lst n1) (ext_trans (ext_lst m1) (ext_trans e10 (ext_trans (ext_lst n2) (ext_lst m2))))))))))))), g2.mono (ext_trans e4 (ext_trans e5 (ext_trans (ext_lst n0) (ext_trans e6 (ext_trans e7 (ext_trans e8 (ext_trans e9 (ext_trans (ext_lst n1) (ext_trans (ext_lst m1) (ext_trans e10 (ext_trans (ext_lst n2) (ext_lst m2)))))))))))), g3.mono (ext_trans e5 (ext_trans (ext_lst n0) (ext_trans e6 (ext_trans e7 (ext_trans e8 (ext_trans e9 (ext_trans (ext_lst n1) (ext_trans (ext_lst m1) (ext_trans e10 (ext_trans (ext_lst n2) (ext_lst m2))))))))))), g4.mono (ext_trans (ext_lst n0) (ext_trans e6 (ext_trans e7 (ext_trans e8 (ext_trans e9 (ext_trans (ext_lst n1) (ext_trans (ext_lst m1) (ext_trans e10 (ext_trans (ext_lst n2) (ext_lst m2)))))))))), g5.mono (ext_trans e7 (ext_trans e8 (ext_trans e9 (ext_trans (ext_lst n1) (ext_trans (ext_lst m1) (ext_trans e10 (ext_trans (ext_lst n2) (ext_lst m2)))))))), g6.mono (ext_trans e8 (ext_trans e9 (ext_trans (ext_lst n1) (ext_trans (ext_lst m1) (ext_trans e10 (ext_trans (ext_lst n2) (ext_lst m2))))))), g7.mono (ext_trans e9 (ext_trans (ext_lst n1) (ext_trans (ext_lst m1) (ext_trans e10 (ext_trans (ext_lst n2) (ext_lst m2)))))), g8.mono (ext_trans (ext_lst n1) (ext_trans (ext_lst m1) (ext_trans e10 (ext_trans (ext_lst n2) (ext_lst m2))))), g9.mono (ext_trans (ext_lst n2) (ext_lst m2)), trivial⟩ (ext_trans e1 (ext_trans e2 (ext_trans e3 (ext_trans e4 (ext_trans e5 (ext_trans (ext_lst n0) (ext_trans e6 (ext_trans e7 (ext_trans e8 (ext_trans e9 (ext_trans (ext_lst n1) (ext_trans (ext_lst m1) (ext_trans e10 (ext_trans (ext_lst n2) (ext_lst m2))))))))))))))) ?_ upd_same
    exact e_none (ext_trans e1 (ext_trans e2 (ext_trans e3 (ext_trans e4 (ext_trans e5 (ext_trans (ext_lst n0) (ext_trans e6 (ext_trans e7 (ext_trans e8 (ext_trans e9 (ext_trans (ext_lst n1) (ext_trans (ext_lst m1) (ext_trans e10 (ext_lst n2)))))))))))))) m2
end
end EX

namespace EX
open At L2 PyProof.Rows PySem.Spec PySem
theorem ten_lt {i : Nat} (h : i ≤ 300) : ((10 : Int) ^ i).natAbs < 2 ^ 1200 := by
  rw [Int.natAbs_pow]
  exact Nat.lt_of_le_of_lt (Nat.pow_le_pow_right (by decide) h) (by decide +kernel)
theorem ten_mul {i : Nat} (h : i ≤ 300) : CMulX (10 ^ i) 10 := mulx_ok (b := 4) (ten_lt h) (by decide) (by decide)
/-- the other eleven: pe is the empty list -/
def rest (pe : Addr) : List (Own × Option V) := (owns.drop 10).zip [some .non, some .non, some .non, some .non, some .non, some (.ref pe), some (.int 3), some (.int 4), some (.int 5), none, some (.int 6)]
/-! ### data -/
def dat : V → PyData
  | .bl b => .bool b
  | .int i => .int i
  | .str x => .str x
  | _ => .none
def plain : V → Bool
  | .non => true
  | .bl _ => true
  | .int _ => true
  | .str _ => true
  | _ => false
section
variable {K : PySem.W.Frag} {H H' : Hp} {Q : VK}
theorem dp_plain : ∀ {v : V}, plain v = true → Dp K H v (dat v)
  | .non, _ => .non
  | .bl b, _ => .bl b
  | .int i, _ => .int i
  | .str x, _ => .str x
theorem dp_plains : ∀ {vs : List V}, vs.all plain = true → DpAll K H vs (vs.map dat)
  | [], _ => .nil
  | v :: vs, h => by
    obtain ⟨h1, h2⟩ := Bool.and_eq_true_iff.mp (show (plain v && vs.all plain) = true from h)
    exact .cons (dp_plain h1) (dp_plains h2)
theorem dp_flat {p : Addr} {xs : List V} (h : H p = some (.lst xs)) (pl : xs.all plain = true) : Dp K H (.ref p) (.list (xs.map dat)) := .lst (SqL.of h) (dp_plains pl)
theorem go_ne {x y : V} {d : PyData} (h1 : Dp K H x d) (h2 : Dp K H y d) (s : SeqAt.shaped d = true) (e : PyData.eqv d d = true) (q : Q (.bl false) H) : rNeD K x y H Q := ⟨d, d, h1, h2, s, s, by rw [e]; exact q⟩
/-- lists at these addresses -/
def AllRows (H : Hp) : List Addr → List (List V) → Prop
  | [], [] => True
  | p :: ps, r :: rs => H p = some (.lst r) ∧ AllRows H ps rs
  | _, _ => False
theorem AllRows.mono (e : Ext H H') : ∀ {ps : List Addr} {rs : List (List V)}, AllRows H ps rs → AllRows H' ps rs
  | [], [], _ => trivial
  | _ :: _, _ :: _, h => ⟨e _ _ h.1, AllRows.mono e h.2⟩
theorem AllRows.off {D : Addr} {o : HO} : ∀ {ps : List Addr} {rs : List (List V)}, (∀ p ∈ ps, p ≠ D) → AllRows H ps rs → AllRows (upd H D o) ps rs
  | [], [], _, _ => trivial
  | p :: ps, r :: rs, n, h => ⟨by rw [upd_ne (n p List.mem_cons_self)]; exact h.1, AllRows.off (fun q hq => n q (List.mem_cons_of_mem _ hq)) h.2⟩
theorem AllRows.snoc {q : Addr} {r : List V} (hq : H q = some (.lst r)) : ∀ {ps : List Addr} {rs : List (List V)}, AllRows H ps rs → AllRows H (ps ++ [q]) (rs ++ [r])
  | [], [], _ => ⟨hq, trivial⟩
  | _ :: _, _ :: _, h => ⟨h.1, AllRows.snoc hq h.2⟩
theorem AllRows.len : ∀ {ps : List Addr} {rs : List (List V)}, AllRows H ps rs → ps.length = rs.length
  | [], [], _ => rfl
  | _ :: _, _ :: _, h => congrArg Nat.succ (AllRows.len h.2)
theorem AllRows.dp : ∀ {ps : List Addr} {rs : List (List V)}, AllRows H ps rs → rs.all (fun r => r.all plain) = true → DpAll K H (ps.map V.ref) (rs.map fun r => .list (r.map dat))
  | [], [], _, _ => .nil
  | _ :: ps, r :: rs, h, pl => by
    obtain ⟨h1, h2⟩ := Bool.and_eq_true_iff.mp (show (r.all plain && rs.all fun r => r.all plain) = true from pl)
    exact .cons (dp_flat h.1 h1) (AllRows.dp h.2 h2)
theorem AllRows.same {p : Addr} {r : List V} (h : H p = some (.lst r)) : ∀ n : Nat, AllRows H (List.replicate n p) (List.replicate n r)
  | 0 => trivial
  | n + 1 => ⟨h, AllRows.same h n⟩
/-- what stands after n turns of a comprehension whose items are lists -/
def Pv (G : Hp) (D : Addr) (f : Nat → List V) (n : Nat) (H : Hp) : Prop := ∃ ps : List Addr, H D = some (.lst (ps.map V.ref)) ∧ AllRows H ps ((List.range n).map f) ∧ (∀ p ∈ ps, p ≠ D) ∧ Ext G H
theorem Pv.start {G : Hp} {D : Addr} {f : Nat → List V} (n : G D = none) : Pv G D f 0 (upd G D (.lst [])) := ⟨[], upd_same, trivial, fun _ z => (nomatch z), ext_lst n⟩
theorem Pv.step {G : Hp} {D p : Addr} {f : Nat → List V} {n : Nat} (nD : G D = none) (h : Pv G D f n H) (small : n ≤ 1000) (e : Ext H H') (np : H p = none) (hp : H' p = some (.lst (f n))) :
    ∃ acc, H' D = some (.lst acc) ∧ acc.length < sizeLine ∧ Pv G D f (n + 1) (upd H' D (.lst (acc ++ [.ref p]))) := by
  obtain ⟨ps, h1, h2, h3, h4⟩ := h
  have hD := e _ _ h1
  have pD : p ≠ D := fun z => by rw [z, h1] at np; cases np
  have ln : ps.length = n := by rw [h2.len, List.length_map, List.length_range]
  refine ⟨_, hD, by rw [List.length_map, ln, sizeLine_eq]; omega, ps ++ [p], by rw [upd_same, List.map_append]; rfl, ?_, ?_, ?_⟩
  · rw [List.range_succ, List.map_append]
    exact AllRows.snoc (by rw [upd_ne pD]; exact hp) ((h2.mono e).off h3)
  · intro q hq
    rcases List.mem_append.mp hq with z | z
    · exact h3 q z
    · rw [List.mem_singleton.mp z]; exact pD
  · intro b o z
    rw [upd_ne (ne_of_none z nD)]
    exact e _ _ (h4 _ _ z)
theorem Pv.dp {G : Hp} {D : Addr} {f : Nat → List V} {n : Nat} (h : Pv G D f n H) (pl : ((List.range n).map f).all (fun r => r.all plain) = true) : Dp K H (.ref D) (.list (((List.range n).map f).map fun r => .list (r.map dat))) :=
  let ⟨_, h1, h2, _, _⟩ := h; .lst (SqL.of h1) (h2.dp pl)
theorem Pv.ext {G : Hp} {D : Addr} {f : Nat → List V} {n : Nat} (h : Pv G D f n H) : Ext G H := let ⟨_, _, _, _, z⟩ := h; z
theorem Pv.mono {G : Hp} {D : Addr} {f : Nat → List V} {n : Nat} (h : Pv G D f n H) (e : Ext H H') : Pv G D f n H' := let ⟨ps, a, b, c, d⟩ := h; ⟨ps, e _ _ a, b.mono e, c, ext_trans d e⟩
/-- reading a field that is kept -/
theorem keepF {a : Addr} {o : Own} {f : Str} {v : V} (X : OwnX K o) (e : o.fld = f) (k : Keeps H a (cla K o.nm) f (some v)) (q : Q v H) :
    ∃ b C dx fs u, V.ref a = V.ref b ∧ XfC K C ∧ PySem.W.findIn K (.ref C) f = some none ∧ H b = some (exo b C (some dx)) ∧ H dx = some (exd dx fs) ∧ fs.lookup f = some u ∧ Q u H := by
  subst e
  obtain ⟨dx, k1, k2⟩ := k
  exact ⟨a, _, dx, _, v, rfl, X.x.rd, X.nf, k1, k2, by simp [List.lookup], q⟩
end
end EX

namespace EX
open At L2 PyProof.Rows PySem.Spec PySem
section
variable {K : PySem.W.Frag} {H H' G : Hp} {Q : VK} {σ : L2.St} {l : Addr} {as : List Addr} {i0 : Nat}
theorem Err.ext {a C : Addr} (e : Ext H H') (h : Err H a C) : Err H' a C := by
  rcases h with h | ⟨dx, fs, h1, h2⟩
  · exact .inl (e _ _ h)
  · exact .inr ⟨dx, fs, e _ _ h1, e _ _ h2⟩
theorem pick {a : V} {j : Nat} (h : (as.map V.ref)[j]? = some a) : ∃ b, as[j]? = some b ∧ a = .ref b := by
  rw [List.getElem?_map] at h
  obtain ⟨b, h1, h2⟩ := Option.map_eq_some_iff.mp h
  exact ⟨b, h1, h2.symm⟩
/-- [f(e) for e in xs], f telling a list by the error's place -/
theorem comp_of {f : Nat → List V} (hs : ∀ x : V, ((wipe σ [4]).set 4 (some x))[4]? = some (some x)) (hw : ∀ x : V, wipe ((wipe σ [4]).set 4 (some x)) [4] = wipe σ [4])
    (hl : G l = some (.lst (as.map V.ref))) (good : ∀ j a, as[j]? = some a → ∃ o, owns[i0 + j]? = some o ∧ Err G a (cla K o.nm)) (small : as.length ≤ 1000)
    (q : ∀ D Hn, G D = none → Pv G D (fun j => f (i0 + j)) as.length Hn → Q (.ref D) Hn) :
    tLc (fun _ H R => R (Itl K l) H) (gName 4) tYes (tCall (spOf K f) [] E0 (tCons (tVar 4) tNil)) [4] σ G Q := fun D nD =>
  lc_list (xs := as.map V.ref) (Pv G D fun j => f (i0 + j)) (Pv.start nD) (fun i Hn hi p => SqL.of (p.ext _ _ hl)) (fun n x Hn hx p => by
    obtain ⟨a, ha, rfl⟩ := pick hx
    obtain ⟨o, ho, er⟩ := good n a ha
    have hn : n < as.length := (List.getElem?_eq_some_iff.mp ha).1
    refine ⟨hw _, ?_⟩
    unfold tYes
    simp only [↓reduceIte]
    refine go_call ⟨_, hs _, ?_⟩
    exact ⟨a, i0 + n, o, rfl, ho, Err.ext p.ext er, fun H' p' e np hp => p.step nD (by omega) e np hp⟩) fun Hn p => q D Hn nD (by rw [List.length_map] at p; exact p)
/-- [[k] for k in range(n)] -/
theorem comp_rng {n : Nat} (hs : ∀ x : V, ((wipe σ [5]).set 5 (some x))[5]? = some (some x)) (hw : ∀ x : V, wipe ((wipe σ [5]).set 5 (some x)) [5] = wipe σ [5]) (small : n ≤ 1000)
    (q : ∀ D Hn, G D = none → Pv G D (fun j => [V.int (0 + (j : Int))]) n Hn → Q (.ref D) Hn) :
    tLc (fun _ H R => R (Itr 0 n) H) (gName 5) tYes (tLst (tCons (tVar 5) tNil)) [5] σ G Q := fun D nD =>
  lc_range (Pv G D fun j => [V.int (0 + (j : Int))]) (Pv.start nD) (fun i Hn hi p => by
    refine ⟨hw _, ?_⟩
    unfold tYes
    simp only [↓reduceIte]
    refine go_lst ⟨_, hs _, ?_⟩
    exact ⟨by rw [sizeLine_eq]; exact Nat.le_of_ble_eq_true rfl, fun p' np => p.step nD (by omega) (ext_lst np) np upd_same⟩) fun Hn p => q D Hn nD p
/-- [e.f for e in xs], all keeping v -/
theorem comp_fld {f : Str} {v : V} (hs : ∀ x : V, ((wipe σ [4]).set 4 (some x))[4]? = some (some x)) (hw : ∀ x : V, wipe ((wipe σ [4]).set 4 (some x)) [4] = wipe σ [4])
    (hl : G l = some (.lst (as.map V.ref))) (good : ∀ (j : Nat) (a : Addr), as[j]? = some a → ∃ o, OwnX K o ∧ o.fld = f ∧ Keeps G a (cla K o.nm) f (some v)) (small : as.length ≤ 1000)
    (q : ∀ D Hn, G D = none → Ext G Hn → Hn D = some (.lst (List.replicate as.length v)) → Q (.ref D) Hn) :
    tLc (fun _ H R => R (Itl K l) H) (gName 4) tYes (EX.tFld K f (tVar 4)) [4] σ G Q := fun D nD =>
  lc_list (xs := as.map V.ref) (fun n Hn => Hn = upd G D (.lst (List.replicate n v))) rfl (fun i Hn hi p => by subst p; exact SqL.of (mem_new nD hl)) (fun n x Hn hx p => by
    subst p
    obtain ⟨a, ha, rfl⟩ := pick hx
    obtain ⟨o, X, ef, k⟩ := good n a ha
    have hn : n < as.length := (List.getElem?_eq_some_iff.mp ha).1
    refine ⟨hw _, ?_⟩
    unfold tYes
    simp only [↓reduceIte]
    refine ⟨_, hs _, keepF (Q := fun y H4 => ∃ acc, H4 D = some (HO.lst acc) ∧ acc.length < sizeLine ∧ upd H4 D (HO.lst (acc ++ [y])) = upd G D (HO.lst (List.replicate (n + 1) v))) X ef (k.mono (ext_lst nD)) ?_⟩
    refine ⟨_, upd_same, by rw [List.length_replicate, sizeLine_eq]; omega, ?_⟩
    rw [upd_upd, List.replicate_succ']) fun Hn p => by
    subst p
    rw [List.length_map]
    exact q D _ nD (ext_lst nD) upd_same
/-- where the errors of a part stand -/
theorem part_ {n j : Nat} {a : Addr} (h : ((as.drop i0).take n)[j]? = some a) : as[i0 + j]? = some a := by
  rw [List.getElem?_take] at h
  split at h
  · rw [List.getElem?_drop] at h
    exact h
  · cases h
theorem names_ (pe : Addr) : (ten ++ rest pe).map (·.1) = owns := rfl
theorem Good.own {pe : Addr} {i : Nat} {a : Addr} (g : Good K G as (ten ++ rest pe)) (h : as[i]? = some a) : ∃ o v, owns[i]? = some o ∧ (ten ++ rest pe)[i]? = some (o, v) ∧ Keeps G a (cla K o.nm) o.fld v := by
  obtain ⟨⟨o, v⟩, h1, h2⟩ := g.at_ h
  refine ⟨o, v, ?_, h1, h2⟩
  have z : ((ten ++ rest pe).map (·.1))[i]? = some o := by
    rw [List.getElem?_map, h1]
    rfl
  rw [names_] at z
  exact z
theorem good_ {pe : Addr} {n : Nat} (g : Good K G as (ten ++ rest pe)) : ∀ j a, ((as.drop i0).take n)[j]? = some a → ∃ o, owns[i0 + j]? = some o ∧ Err G a (cla K o.nm) := fun j a h => by
  obtain ⟨o, v, h1, _, k⟩ := g.own (part_ h)
  exact ⟨o, h1, k.err⟩
/-- rows put so often -/
theorem rep_rows {d p : Addr} {n : Nat} {r : List V} (h1 : H d = some (.lst ((List.replicate n p).map V.ref))) (h2 : H p = some (.lst r)) (pl : (List.replicate n r).all (fun r => r.all plain) = true) : Dp K H (.ref d) (.list ((List.replicate n r).map fun r => .list (r.map dat))) :=
  .lst (SqL.of h1) ((AllRows.same h2 n).dp pl)
section
variable {i : Nat} {c : Addr} {xs : List V} {g : TG} {tt : TT} {te : TE} {vs : List Nat} {lo hi : Option Int} {tl th : TO} {n : Int}
theorem lc_var (hv : σ[i]? = some (some (.ref l))) (hl : SqL K G l xs) (h : tLc (fun _ H R => R (Itl K l) H) g tt te vs σ G Q) : tLc (iList K (tVar i)) g tt te vs σ G Q := ⟨_, hv, l, rfl, ⟨_, hl⟩, h⟩
theorem lc_cut (hv : σ[i]? = some (some (.ref c))) (hl : SqL K G c xs) (h1 : ∀ R : Option Int → Hp → Prop, R lo G → tl σ G R) (h2 : ∀ R : Option Int → Hp → Prop, R hi G → th σ G R)
    (h : ∀ p, G p = none → tLc (fun _ H R => R (Itl K p) H) g tt te vs σ (upd G p (.lst (cutV xs lo hi))) Q) : tLc (iList K (tSl (rSlL K) (tVar i) tl th)) g tt te vs σ G Q :=
  ⟨_, hv, h1 _ (h2 _ ⟨c, xs, rfl, hl, fun p np => ⟨p, rfl, ⟨_, SqL.of upd_same⟩, h p np⟩⟩)⟩
theorem no_part (R : Option Int → Hp → Prop) (h : R none G) : tNoPart σ G R := h
theorem a_part (R : Option Int → Hp → Prop) (h : R (some n) G) : tPart (tC (.int n)) σ G R := ⟨n, rfl, h⟩
theorem lc_rng (h0 : -(2 ^ 62) ≤ n) (h1 : n < 2 ^ 62) (h : tLc (fun _ H R => R (Itr 0 n.toNat) H) g tt te vs σ G Q) : tLc (iRng1 (tCons (tC (.int n)) tNil)) g tt te vs σ G Q := ⟨n, rfl, h0, h1, h⟩
end
theorem Pv.dp_ {D : Addr} {f : Nat → List V} {n : Nat} {rs : List (List V)} (h : Pv G D f n H) (e : (List.range n).map f = rs) (pl : rs.all (fun r => r.all plain) = true) : Dp K H (.ref D) (.list (rs.map fun r => .list (r.map dat))) := by
  subst e
  exact h.dp pl
theorem cut_ (h : as.length = 21) : cutV (as.map V.ref) none (some 15) = ((as.drop 0).take 15).map V.ref ∧ cutV (as.map V.ref) (some 15) (some 17) = ((as.drop 15).take 2).map V.ref ∧ cutV (as.map V.ref) (some 17) none = ((as.drop 17).take 4).map V.ref ∧
    cutV (as.map V.ref) none (some 10) = ((as.drop 0).take 10).map V.ref ∧ cutV (as.map V.ref) (some 10) (some 15) = ((as.drop 10).take 5).map V.ref := by
  match as, h with
  | [_, _, _, _, _, _, _, _, _, _, _, _, _, _, _, _, _, _, _, _, _], _ => exact ⟨rfl, rfl, rfl, rfl, rfl⟩
theorem part_len {n : Nat} (h : as.length = 21) (k : i0 + n ≤ 21) : ((as.drop i0).take n).length = n := by
  rw [List.length_take, List.length_drop, h]
  omega
def rowOf (a b c : Bool) : List V := [.bl a, .bl b, .bl c, .bl a, .bl b, .bl c]
theorem kin15 : (List.range 15).map (fun j => kinds (0 + j)) = List.replicate 15 (rowOf true false false) := rfl
theorem kin2 : (List.range 2).map (fun j => kinds (15 + j)) = List.replicate 2 (rowOf false true false) := rfl
theorem kin4 : (List.range 4).map (fun j => kinds (17 + j)) = List.replicate 4 (rowOf false false true) := rfl
theorem fld_ok {w : World} {mg : Str → Option Value} {pe : Addr} {n : Nat} {f : Str} {v : V} (T : Top w K mg) (g : Good K G as (ten ++ rest pe)) (all : (((ten ++ rest pe).drop i0).take n).all (fun q => decide (q.1.fld = f) && decide (q.2 = some v)) = true) :
    ∀ (j : Nat) (a : Addr), ((as.drop i0).take n)[j]? = some a → ∃ o, OwnX K o ∧ o.fld = f ∧ Keeps G a (cla K o.nm) f (some v) := fun j a h => by
  obtain ⟨o, u, h1, h2, k⟩ := g.own (part_ h)
  have hj : j < n := by
    rw [List.getElem?_take] at h
    split at h
    · next z => exact z
    · cases h
  have mem : (o, u) ∈ ((ten ++ rest pe).drop i0).take n := List.mem_of_getElem? (i := j) (by rw [List.getElem?_take, if_pos hj, List.getElem?_drop]; exact h2)
  have z := List.all_eq_true.mp all _ mem
  obtain ⟨z1, z2⟩ := Bool.and_eq_true_iff.mp z
  have z1 : o.fld = f := of_decide_eq_true z1
  have z2 : u = some v := of_decide_eq_true z2
  subst z1 z2
  exact ⟨o, own_x T h1, rfl, k⟩
/-- the i-th error -/
theorem nth {w : World} {mg : Str → Option Value} {pe : Addr} {i : Nat} {o : Own} {v : Option V} (T : Top w K mg) (h : as.length = 21) (hi : i < 21) (g : Good K G as (ten ++ rest pe)) (e : (ten ++ rest pe)[i]? = some (o, v)) :
    ∃ b, atI (as.map V.ref) (i : Int) = some (.ref b) ∧ OwnX K o ∧ Keeps G b (cla K o.nm) o.fld v := by
  have hb : as[i]? = some as[i] := List.getElem?_eq_getElem (by omega)
  obtain ⟨o2, v2, h1, h2, k⟩ := g.own hb
  rw [e] at h2
  obtain ⟨rfl, rfl⟩ := Prod.mk.inj (Option.some.inj h2)
  refine ⟨_, atI_nat ?_, own_x T h1, k⟩
  rw [List.getElem?_map, hb]
  rfl
end
end EX

namespace EX
open At L2 PyProof.Rows PySem.Spec PySem
section
variable {P : Program} {base : Heap} {w : World} {K : PySem.W.Frag} {mg : Str → Option Value}
abbrev N_law : List Str := ["_law_script", "_law_great", "_law_turn", "_law_every", "_law_e", "_law_at"]
theorem sc_law : FnScope N_law ["_law_script"] (defScope (top 40)) := ⟨rfl, rfl, rfl, by decide +kernel, rfl, by decide +kernel, by decide +kernel⟩
def none_ : Hp := fun _ => none
theorem body (T : Top w K mg) (cdv : Value) (s : Shared) (E : XK) (v0 : V) :
    ∃ t, PSs (cxOf CX0 P w K mg base N_law "law" (defScope (top 40)) (cla K "law") cdv callerA [] s none_ E) (defBody (top 40)) t ∧ t { nx := fun _ _ => False, rt := fun v _ => v = .bl true } (L2.start N_law [v0]) none_ := by
  have hr : Room 4 (callerA.deeper (envOfC "law" (defScope (top 40)) s.heap.objs.size (cla K "law") cdv)) := Room.deeper (⟨rfl, by decide, by decide⟩ : Room 5 callerA) _
  have hgd : (cxOf CX0 P w K mg base N_law "law" (defScope (top 40)) (cla K "law") cdv callerA [] s none_ E).nox.A.guards = some [] := rfl
  obtain ⟨u_MOST_REMAINDER, e_MOST_REMAINDER, r_MOST_REMAINDER⟩ := T.n_MOST_REMAINDER
  obtain ⟨u_MOST_LETTERS, e_MOST_LETTERS, r_MOST_LETTERS⟩ := T.n_MOST_LETTERS
  obtain ⟨u_MOST_PAIRS, e_MOST_PAIRS, r_MOST_PAIRS⟩ := T.n_MOST_PAIRS
  obtain ⟨u_MOST_TIMES, e_MOST_TIMES, r_MOST_TIMES⟩ := T.n_MOST_TIMES
  obtain ⟨u_GREATEST, e_GREATEST, r_GREATEST⟩ := T.n_GREATEST
  obtain ⟨u_MOST_TABLE, e_MOST_TABLE, r_MOST_TABLE⟩ := T.n_MOST_TABLE
  obtain ⟨u_MOST_WEBS, e_MOST_WEBS, r_MOST_WEBS⟩ := T.n_MOST_WEBS
  obtain ⟨u_MOST_WEB, e_MOST_WEB, r_MOST_WEB⟩ := T.n_MOST_WEB
  obtain ⟨u_MOST_PLACES, e_MOST_PLACES, r_MOST_PLACES⟩ := T.n_MOST_PLACES
  obtain ⟨u_MOST_BOUND, e_MOST_BOUND, r_MOST_BOUND⟩ := T.n_MOST_BOUND
  obtain ⟨u_MOST_LISTED, e_MOST_LISTED, r_MOST_LISTED⟩ := T.n_MOST_LISTED
  obtain ⟨_, G__law_wrong_values, b__law_wrong_values, k__law_wrong_values⟩ := fn__law_wrong_values (P := P) (base := base) T
  have X_InvalidRows : OwnX K ⟨"InvalidRows", "ValueError.__new__", VE, "index"⟩ := own_x T (i := 12) rfl
  obtain ⟨_, F_InvalidRows, b_InvalidRows, n_InvalidRows⟩ := ok_InvalidRows (P := P) (base := base) T
  have X_InvalidTurns : OwnX K ⟨"InvalidTurns", "ValueError.__new__", VE, "index"⟩ := own_x T (i := 11) rfl
  obtain ⟨_, F_InvalidTurns, b_InvalidTurns, n_InvalidTurns⟩ := ok_InvalidTurns (P := P) (base := base) T
  have X_InvalidNumbers : OwnX K ⟨"InvalidNumbers", "ValueError.__new__", VE, "index"⟩ := own_x T (i := 10) rfl
  obtain ⟨_, F_InvalidNumbers, b_InvalidNumbers, n_InvalidNumbers⟩ := ok_InvalidNumbers (P := P) (base := base) T
  have X_InUse : OwnX K ⟨"InUse", "LookupError.__new__", LE, "index"⟩ := own_x T (i := 16) rfl
  obtain ⟨_, F_InUse, b_InUse, n_InUse⟩ := ok_InUse (P := P) (base := base) T
  have X_UnknownName : OwnX K ⟨"UnknownName", "LookupError.__new__", LE, "given"⟩ := own_x T (i := 15) rfl
  obtain ⟨_, F_UnknownName, b_UnknownName, n_UnknownName⟩ := ok_UnknownName (P := P) (base := base) T
  have X_InvalidDeeds : OwnX K ⟨"InvalidDeeds", "ValueError.__new__", VE, "index"⟩ := own_x T (i := 14) rfl
  obtain ⟨_, F_InvalidDeeds, b_InvalidDeeds, n_InvalidDeeds⟩ := ok_InvalidDeeds (P := P) (base := base) T
  have X_InvalidRemainders : OwnX K ⟨"InvalidRemainders", "ValueError.__new__", VE, "index"⟩ := own_x T (i := 13) rfl
  obtain ⟨_, F_InvalidRemainders, b_InvalidRemainders, n_InvalidRemainders⟩ := ok_InvalidRemainders (P := P) (base := base) T
  have X_Broken : OwnX K ⟨"Broken", "ArithmeticError.__new__", AE, "index"⟩ := own_x T (i := 20) rfl
  obtain ⟨_, F_Broken, b_Broken, n_Broken⟩ := ok_Broken (P := P) (base := base) T
  have X_NothingToUndo : OwnX K ⟨"NothingToUndo", "ArithmeticError.__new__", AE, ""⟩ := own_x T (i := 19) rfl
  obtain ⟨_, F_NothingToUndo, b_NothingToUndo⟩ := ok_NothingToUndo (P := P) (base := base) T
  have X_TooMany : OwnX K ⟨"TooMany", "ArithmeticError.__new__", AE, "limit"⟩ := own_x T (i := 18) rfl
  obtain ⟨_, F_TooMany, b_TooMany, n_TooMany⟩ := ok_TooMany (P := P) (base := base) T
  have X_TooGreat : OwnX K ⟨"TooGreat", "ArithmeticError.__new__", AE, "index"⟩ := own_x T (i := 17) rfl
  obtain ⟨_, F_TooGreat, b_TooGreat, n_TooGreat⟩ := ok_TooGreat (P := P) (base := base) T
  obtain ⟨_, G__law_own, b__law_own, k__law_own⟩ := fn__law_own (P := P) (base := base) T
  obtain ⟨_, G__law_kinds, b__law_kinds, k__law_kinds⟩ := fn__law_kinds (P := P) (base := base) T
  refine ⟨_, PSs.nox (pss_cons (ps_set (i := 1) sc_law.nd rfl (Or.inl rfl) pe_int)
    (pss_cons (ps_for PassesOwn.never rfl (pi_range1 (by rfl) T.b_range (pa_cons pe_int pa_nil)) (pg_name (i := 2) sc_law.nd rfl (Or.inl rfl)) (pss_one (ps_set (i := 1) sc_law.nd rfl (Or.inl rfl) (pe_op op_mulX (pv 1) pe_int))))
    (pss_cons (ps_if (pt_cmpR (op_neD (hu_ hr)) (pe_lst (pa_cons (pe_glob rfl e_GREATEST r_GREATEST) (pa_cons (pe_glob rfl e_MOST_TIMES r_MOST_TIMES) (pa_cons (pe_glob rfl e_MOST_PAIRS r_MOST_PAIRS) (pa_cons (pe_glob rfl e_MOST_LETTERS r_MOST_LETTERS) (pa_cons (pe_glob rfl e_MOST_REMAINDER r_MOST_REMAINDER) pa_nil)))))) (pe_lst (pa_cons (pv 1) (pa_cons (pe_op op_mulX (pv 1) (pe_op op_pow pe_int pe_int)) (pa_cons pe_int (pa_cons pe_int (pa_cons pe_int pa_nil)))))) (nomark _)) (pss_one (ps_ret pe_bl)) pss_nil)
    (pss_cons (ps_if (pt_cmpR (op_neD (hu_ hr)) (pe_lst (pa_cons (pe_glob rfl e_MOST_LISTED r_MOST_LISTED) (pa_cons (pe_glob rfl e_MOST_BOUND r_MOST_BOUND) (pa_cons (pe_glob rfl e_MOST_PLACES r_MOST_PLACES) (pa_cons (pe_glob rfl e_MOST_WEB r_MOST_WEB) (pa_cons (pe_glob rfl e_MOST_WEBS r_MOST_WEBS) (pa_cons (pe_glob rfl e_MOST_TABLE r_MOST_TABLE) pa_nil))))))) (pe_lst (pa_cons pe_int (pa_cons (pe_op op_pow pe_int pe_int) (pa_cons pe_int (pa_cons (pe_op op_pow pe_int pe_int) (pa_cons pe_int (pa_cons pe_int pa_nil))))))) (nomark _)) (pss_one (ps_ret pe_bl)) pss_nil)
    (pss_cons (ps_set (i := 3) sc_law.nd rfl (Or.inl rfl) (pe_op op_cat (pe_call0 G__law_wrong_values (hr.mono (by decide)) (by rfl) T.g__law_wrong_values k__law_wrong_values b__law_wrong_values .nil pass0) (pe_lst (pa_cons (pe_new FBV X_InvalidNumbers.x X_InvalidNumbers.i X_InvalidNumbers.t F_InvalidNumbers (hr.mono (by decide)) b_InvalidNumbers (by rfl) T.g_InvalidNumbers (pa_cons pe_non pa_nil)) (pa_cons (pe_newK FBV X_InvalidTurns.x X_InvalidTurns.i X_InvalidTurns.t F_InvalidTurns (hr.mono (by decide)) n_InvalidTurns (by rfl) T.g_InvalidTurns (pk_cons pe_non pk_nil)) (pa_cons (pe_new FBV X_InvalidRows.x X_InvalidRows.i X_InvalidRows.t F_InvalidRows (hr.mono (by decide)) b_InvalidRows (by rfl) T.g_InvalidRows (pa_cons pe_non pa_nil)) pa_nil))))))
    (pss_cons (ps_set (i := 3) sc_law.nd rfl (Or.inl rfl) (pe_op op_cat (pv 3) (pe_lst (pa_cons (pe_newK FBV X_InvalidRemainders.x X_InvalidRemainders.i X_InvalidRemainders.t F_InvalidRemainders (hr.mono (by decide)) n_InvalidRemainders (by rfl) T.g_InvalidRemainders (pk_cons pe_non pk_nil)) (pa_cons (pe_new FBV X_InvalidDeeds.x X_InvalidDeeds.i X_InvalidDeeds.t F_InvalidDeeds (hr.mono (by decide)) b_InvalidDeeds (by rfl) T.g_InvalidDeeds (pa_cons pe_non pa_nil)) (pa_cons (pe_new FBL X_UnknownName.x X_UnknownName.i X_UnknownName.t F_UnknownName (hr.mono (by decide)) b_UnknownName (by rfl) T.g_UnknownName (pa_cons (pe_lst pa_nil) pa_nil)) (pa_cons (pe_newK FBL X_InUse.x X_InUse.i X_InUse.t F_InUse (hr.mono (by decide)) n_InUse (by rfl) T.g_InUse (pk_cons pe_int pk_nil)) pa_nil)))))))
    (pss_cons (ps_set (i := 3) sc_law.nd rfl (Or.inl rfl) (pe_op op_cat (pv 3) (pe_lst (pa_cons (pe_new FBA X_TooGreat.x X_TooGreat.i X_TooGreat.t F_TooGreat (hr.mono (by decide)) b_TooGreat (by rfl) T.g_TooGreat (pa_cons pe_int pa_nil)) (pa_cons (pe_newK FBA X_TooMany.x X_TooMany.i X_TooMany.t F_TooMany (hr.mono (by decide)) n_TooMany (by rfl) T.g_TooMany (pk_cons pe_int pk_nil)) (pa_cons (pe_new0 FBA X_NothingToUndo.x X_NothingToUndo.i X_NothingToUndo.t F_NothingToUndo (hr.mono (by decide)) b_NothingToUndo (by rfl) T.g_NothingToUndo) (pa_cons (pe_newK FBA X_Broken.x X_Broken.i X_Broken.t F_Broken (hr.mono (by decide)) n_Broken (by rfl) T.g_Broken (pk_cons pe_int pk_nil)) pa_nil)))))))
    (pss_cons (ps_if (pt_cmpR (op_neD (hu_ hr)) (pe_lc (own := [("_law_e", 4)]) (g := gName 4) (tt := tYes) (by rfl) sc_law.nd (pi_list (pv 3)) (blkOk_by (own := [("_law_e", 4)]) (N := N_law) (sc := defScope (top 40)) (by decide +kernel)) (fun _ _ _ _ _ => pg_name (i := 4) sc_law.nd rfl (Or.inl rfl)) (fun _ _ _ _ _ => pts_nil) (fun _ _ _ _ _ => (pe_call G__law_own (hr.mono (by decide)) (by rfl) T.g__law_own k__law_own b__law_own .nil pass0 (pa_cons (pv 4) pa_nil)))) (pe_lc (own := [("_law_at", 5)]) (g := gName 5) (tt := tYes) (by rfl) sc_law.nd (pi_range1 (by rfl) T.b_range (pa_cons pe_int pa_nil)) (blkOk_by (own := [("_law_at", 5)]) (N := N_law) (sc := defScope (top 40)) (by decide +kernel)) (fun _ _ _ _ _ => pg_name (i := 5) sc_law.nd rfl (Or.inl rfl)) (fun _ _ _ _ _ => pts_nil) (fun _ _ _ _ _ => (pe_lst (pa_cons (pv 5) pa_nil)))) (nomark _)) (pss_one (ps_ret pe_bl)) pss_nil)
    (pss_cons (ps_if (pt_cmpR (op_neD (hu_ hr)) (pe_lc (own := [("_law_e", 4)]) (g := gName 4) (tt := tYes) (by rfl) sc_law.nd (pi_list (pe_slice sl_list (pv 3) po_none (po_some pe_int))) (blkOk_by (own := [("_law_e", 4)]) (N := N_law) (sc := defScope (top 40)) (by decide +kernel)) (fun _ _ _ _ _ => pg_name (i := 4) sc_law.nd rfl (Or.inl rfl)) (fun _ _ _ _ _ => pts_nil) (fun _ _ _ _ _ => (pe_call G__law_kinds (hr.mono (by decide)) (by rfl) T.g__law_kinds k__law_kinds b__law_kinds .nil pass0 (pa_cons (pv 4) pa_nil)))) (pe_op op_rep (pe_lst (pa_cons (pe_lst (pa_cons pe_bl (pa_cons pe_bl (pa_cons pe_bl (pa_cons pe_bl (pa_cons pe_bl (pa_cons pe_bl pa_nil))))))) pa_nil)) pe_int) (nomark _)) (pss_one (ps_ret pe_bl)) pss_nil)
    (pss_cons (ps_if (pt_cmpR (op_neD (hu_ hr)) (pe_lc (own := [("_law_e", 4)]) (g := gName 4) (tt := tYes) (by rfl) sc_law.nd (pi_list (pe_slice sl_list (pv 3) (po_some pe_int) (po_some pe_int))) (blkOk_by (own := [("_law_e", 4)]) (N := N_law) (sc := defScope (top 40)) (by decide +kernel)) (fun _ _ _ _ _ => pg_name (i := 4) sc_law.nd rfl (Or.inl rfl)) (fun _ _ _ _ _ => pts_nil) (fun _ _ _ _ _ => (pe_call G__law_kinds (hr.mono (by decide)) (by rfl) T.g__law_kinds k__law_kinds b__law_kinds .nil pass0 (pa_cons (pv 4) pa_nil)))) (pe_op op_rep (pe_lst (pa_cons (pe_lst (pa_cons pe_bl (pa_cons pe_bl (pa_cons pe_bl (pa_cons pe_bl (pa_cons pe_bl (pa_cons pe_bl pa_nil))))))) pa_nil)) pe_int) (nomark _)) (pss_one (ps_ret pe_bl)) pss_nil)
    (pss_cons (ps_if (pt_cmpR (op_neD (hu_ hr)) (pe_lc (own := [("_law_e", 4)]) (g := gName 4) (tt := tYes) (by rfl) sc_law.nd (pi_list (pe_slice sl_list (pv 3) (po_some pe_int) po_none)) (blkOk_by (own := [("_law_e", 4)]) (N := N_law) (sc := defScope (top 40)) (by decide +kernel)) (fun _ _ _ _ _ => pg_name (i := 4) sc_law.nd rfl (Or.inl rfl)) (fun _ _ _ _ _ => pts_nil) (fun _ _ _ _ _ => (pe_call G__law_kinds (hr.mono (by decide)) (by rfl) T.g__law_kinds k__law_kinds b__law_kinds .nil pass0 (pa_cons (pv 4) pa_nil)))) (pe_op op_rep (pe_lst (pa_cons (pe_lst (pa_cons pe_bl (pa_cons pe_bl (pa_cons pe_bl (pa_cons pe_bl (pa_cons pe_bl (pa_cons pe_bl pa_nil))))))) pa_nil)) pe_int) (nomark _)) (pss_one (ps_ret pe_bl)) pss_nil)
    (pss_cons (ps_if (PW.pt (pw_or (pt_cmpR (op_neD (hu_ hr)) (pe_lc (own := [("_law_e", 4)]) (g := gName 4) (tt := tYes) (by rfl) sc_law.nd (pi_list (pe_slice sl_list (pv 3) po_none (po_some pe_int))) (blkOk_by (own := [("_law_e", 4)]) (N := N_law) (sc := defScope (top 40)) (by decide +kernel)) (fun _ _ _ _ _ => pg_name (i := 4) sc_law.nd rfl (Or.inl rfl)) (fun _ _ _ _ _ => pts_nil) (fun _ _ _ _ _ => (EX.pe_fldK (K := K) (pv 4)))) (pe_op op_rep (pe_lst (pa_cons pe_str pa_nil)) pe_int) (nomark _)) (pw_or1 (pt_cmpR (op_neD (hu_ hr)) (pe_lc (own := [("_law_e", 4)]) (g := gName 4) (tt := tYes) (by rfl) sc_law.nd (pi_list (pe_slice sl_list (pv 3) (po_some pe_int) (po_some pe_int))) (blkOk_by (own := [("_law_e", 4)]) (N := N_law) (sc := defScope (top 40)) (by decide +kernel)) (fun _ _ _ _ _ => pg_name (i := 4) sc_law.nd rfl (Or.inl rfl)) (fun _ _ _ _ _ => pts_nil) (fun _ _ _ _ _ => (EX.pe_fldK (K := K) (pv 4)))) (pe_op op_rep (pe_lst (pa_cons pe_non pa_nil)) pe_int) (nomark _))))) (pss_one (ps_ret pe_bl)) pss_nil)
    (pss_one (ps_ret (pe_cmpR op_eq (pe_callB (call_repr_ hgd (hu_ hr)) (by rfl) T.b_repr (by decide +kernel) (pa_cons (pe_lst (pa_cons (EX.pe_fldK (K := K) (pe_ix (ix_l (K := K)) (pv 3) pe_int (fun _ _ => rfl))) (pa_cons (EX.pe_fldK (K := K) (pe_ix (ix_l (K := K)) (pv 3) pe_int (fun _ _ => rfl))) (pa_cons (EX.pe_fldK (K := K) (pe_ix (ix_l (K := K)) (pv 3) pe_int (fun _ _ => rfl))) (pa_cons (EX.pe_fldK (K := K) (pe_ix (ix_l (K := K)) (pv 3) pe_int (fun _ _ => rfl))) (pa_cons (EX.pe_fldK (K := K) (pe_ix (ix_l (K := K)) (pv 3) pe_int (fun _ _ => rfl))) pa_nil)))))) pa_nil)) (pe_callB (call_repr_ hgd (hu_ hr)) (by rfl) T.b_repr (by decide +kernel) (pa_cons (pe_lst (pa_cons (pe_lst pa_nil) (pa_cons pe_int (pa_cons pe_int (pa_cons pe_int (pa_cons pe_int pa_nil)))))) pa_nil)) (nomark _)))))))))))))))), ?rd⟩
  case rd =>
    walk_at "gos"
    unfold tFor
    walk_at "gos"
    refine ⟨by decide, by decide, ?_⟩
    refine for_range (lo := 0) (n := 300) (fun i σ H => H = none_ ∧ ∃ t, σ = [some v0, some (V.int (10 ^ i)), t, none, none, none]) ⟨rfl, none, rfl⟩ (fun i σ H hi z => ?_) fun σ H z => ?_
    · obtain ⟨rfl, t, rfl⟩ := z
      walk_at "gos"
      refine go_rI (ten_mul (Nat.le_of_lt hi)) ?_
      walk_at "gos"
      exact ⟨rfl, _, by rw [Int.pow_succ]; rfl⟩
    obtain ⟨rfl, t, rfl⟩ := z
    walk_at "gos"
    intro p1 n1
    walk_at "gos"
    refine go_rI (mulx_ok (b := 40) (ten_lt (Nat.le_refl _)) (by decide) (by decide)) ?_
    rw [show (10 : Int) ^ 300 * 10 ^ Int.toNat 10 = 10 ^ 310 from by decide +kernel]
    walk_at "gos"
    intro q1 m1
    refine go_ne (dp_flat (mem_new m1 upd_same) rfl) (dp_flat upd_same rfl) (by decide +kernel) (by decide +kernel) ?_
    walk_at "gos"
    intro p2 n2
    walk_at "gos"
    intro q2 m2
    refine go_ne (dp_flat (mem_new m2 upd_same) rfl) (dp_flat upd_same rfl) (by decide +kernel) (by decide +kernel) ?_
    walk_at "gos"
    generalize upd _ _ _ = G
    refine ⟨rfl, fun as0 H0 p0 l0 g0 e0 np0 hp0 => ?_⟩
    walk_at "gos"
    refine ⟨Nat.le_of_ble_eq_true rfl, go_new X_InvalidNumbers fun a10 H10 na10 e10 g10 => ?_⟩
    walk_at "gos"
    refine ⟨rfl, go_new X_InvalidTurns fun a11 H11 na11 e11 g11 => ?_⟩
    walk_at "gos"
    refine ⟨Nat.le_of_ble_eq_true rfl, go_new X_InvalidRows fun a12 H12 na12 e12 g12 => ?_⟩
    walk_at "gos"
    intro d0 nd0
    refine go_cat (mem_new nd0 ((ext_trans e10 (ext_trans e11 e12)) _ _ hp0)) upd_same (by simp only [List.length_map, l0, List.length_cons, List.length_nil]; decide) fun c0 nc0 => ?_
    walk_at "gos"
    refine ⟨rfl, go_new X_InvalidRemainders fun a13 H13 na13 e13 g13 => ?_⟩
    walk_at "gos"
    refine ⟨Nat.le_of_ble_eq_true rfl, go_new X_InvalidDeeds fun a14 H14 na14 e14 g14 => ?_⟩
    walk_at "gos"
    intro pe ne
    walk_at "gos"
    refine ⟨Nat.le_of_ble_eq_true rfl, go_new X_UnknownName fun a15 H15 na15 e15 g15 => ?_⟩
    walk_at "gos"
    refine ⟨rfl, go_new X_InUse fun a16 H16 na16 e16 g16 => ?_⟩
    walk_at "gos"
    intro d1 nd1
    refine go_cat (mem_new nd1 ((ext_trans e13 (ext_trans e14 (ext_trans (ext_lst ne) (ext_trans e15 e16)))) _ _ upd_same)) upd_same (by simp only [List.length_append, List.length_map, l0, List.length_cons, List.length_nil]; decide) fun c1 nc1 => ?_
    walk_at "gos"
    refine ⟨Nat.le_of_ble_eq_true rfl, go_new X_TooGreat fun a17 H17 na17 e17 g17 => ?_⟩
    walk_at "gos"
    refine ⟨rfl, go_new X_TooMany fun a18 H18 na18 e18 g18 => ?_⟩
    walk_at "gos"
    refine go_new0 X_NothingToUndo rfl rfl fun a19 H19 na19 e19 g19 => ?_
    walk_at "gos"
    refine ⟨rfl, go_new X_Broken fun a20 H20 na20 e20 g20 => ?_⟩
    walk_at "gos"
    intro d2 nd2
    refine go_cat (mem_new nd2 ((ext_trans e17 (ext_trans e18 (ext_trans e19 e20))) _ _ upd_same)) upd_same (by simp only [List.length_append, List.length_map, l0, List.length_cons, List.length_nil]; decide) fun c2 nc2 => ?_
    have gB : Good K (upd (upd H20 d2 (HO.lst [V.ref a17, V.ref a18, V.ref a19, V.ref a20])) c2 (HO.lst (as0.map V.ref ++ [V.ref a10, V.ref a11, V.ref a12] ++ [V.ref a13, V.ref a14, V.ref a15, V.ref a16] ++ [V.ref a17, V.ref a18, V.ref a19, V.ref a20]))) [a10, a11, a12, a13, a14, a15, a16, a17, a18, a19, a20] (rest pe) := ⟨(g10.mono (ext_trans e11 (ext_trans e12 (ext_trans (ext_lst nd0) (ext_trans (ext_lst nc0) (ext_trans e13 (ext_trans e14 (ext_trans (ext_lst ne) (ext_trans e15 (ext_trans e16 (ext_trans (ext_lst nd1) (ext_trans (ext_lst nc1) (ext_trans e17 (ext_trans e18 (ext_trans e19 (ext_trans e20 (ext_trans (ext_lst nd2) (ext_lst nc2)))))))))))))))))), (g11.mono (ext_trans e12 (ext_trans (ext_lst nd0) (ext_trans (ext_lst nc0) (ext_trans e13 (ext_trans e14 (ext_trans (ext_lst ne) (ext_trans e15 (ext_trans e16 (ext_trans (ext_lst nd1) (ext_trans (ext_lst nc1) (ext_trans e17 (ext_trans e18 (ext_trans e19 (ext_trans e20 (ext_trans (ext_lst nd2) (ext_lst nc2))))))))))))))))), (g12.mono (ext_trans (ext_lst nd0) (ext_trans (ext_lst nc0) (ext_trans e13 (ext_trans e14 (ext_trans (ext_lst ne) (ext_trans e15 (ext_trans e16 (ext_trans (ext_lst nd1) (ext_trans (ext_lst nc1) (ext_trans e17 (ext_trans e18 (ext_trans e19 (ext_trans e20 (ext_trans (ext_lst nd2) (ext_lst nc2)))))))))))))))), (g13.mono (ext_trans e14 (ext_trans (ext_lst ne) (ext_trans e15 (ext_trans e16 (ext_trans (ext_lst nd1) (ext_trans (ext_lst nc1) (ext_trans e17 (ext_trans e18 (ext_trans e19 (ext_trans e20 (ext_trans (ext_lst nd2) (ext_lst nc2))))))))))))), (g14.mono (ext_trans (ext_lst ne) (ext_trans e15 (ext_trans e16 (ext_trans (ext_lst nd1) (ext_trans (ext_lst nc1) (ext_trans e17 (ext_trans e18 (ext_trans e19 (ext_trans e20 (ext_trans (ext_lst nd2) (ext_lst nc2)))))))))))), (g15.mono (ext_trans e16 (ext_trans (ext_lst nd1) (ext_trans (ext_lst nc1) (ext_trans e17 (ext_trans e18 (ext_trans e19 (ext_trans e20 (ext_trans (ext_lst nd2) (ext_lst nc2)))))))))), (g16.mono (ext_trans (ext_lst nd1) (ext_trans (ext_lst nc1) (ext_trans e17 (ext_trans e18 (ext_trans e19 (ext_trans e20 (ext_trans (ext_lst nd2) (ext_lst nc2))))))))), (g17.mono (ext_trans e18 (ext_trans e19 (ext_trans e20 (ext_trans (ext_lst nd2) (ext_lst nc2)))))), (g18.mono (ext_trans e19 (ext_trans e20 (ext_trans (ext_lst nd2) (ext_lst nc2))))), (g19.mono (ext_trans e20 (ext_trans (ext_lst nd2) (ext_lst nc2)))), (g20.mono (ext_trans (ext_lst nd2) (ext_lst nc2))), trivial⟩
    have gAll : Good K (upd (upd H20 d2 (HO.lst [V.ref a17, V.ref a18, V.ref a19, V.ref a20])) c2 (HO.lst (as0.map V.ref ++ [V.ref a10, V.ref a11, V.ref a12] ++ [V.ref a13, V.ref a14, V.ref a15, V.ref a16] ++ [V.ref a17, V.ref a18, V.ref a19, V.ref a20]))) (as0 ++ [a10, a11, a12, a13, a14, a15, a16, a17, a18, a19, a20]) (ten ++ rest pe) := Good.append gB (g0.mono (ext_trans e10 (ext_trans e11 (ext_trans e12 (ext_trans (ext_lst nd0) (ext_trans (ext_lst nc0) (ext_trans e13 (ext_trans e14 (ext_trans (ext_lst ne) (ext_trans e15 (ext_trans e16 (ext_trans (ext_lst nd1) (ext_trans (ext_lst nc1) (ext_trans e17 (ext_trans e18 (ext_trans e19 (ext_trans e20 (ext_trans (ext_lst nd2) (ext_lst nc2)))))))))))))))))))
    have hEmp : (upd (upd H20 d2 (HO.lst [V.ref a17, V.ref a18, V.ref a19, V.ref a20])) c2 (HO.lst (as0.map V.ref ++ [V.ref a10, V.ref a11, V.ref a12] ++ [V.ref a13, V.ref a14, V.ref a15, V.ref a16] ++ [V.ref a17, V.ref a18, V.ref a19, V.ref a20]))) pe = some (HO.lst []) := (ext_trans e15 (ext_trans e16 (ext_trans (ext_lst nd1) (ext_trans (ext_lst nc1) (ext_trans e17 (ext_trans e18 (ext_trans e19 (ext_trans e20 (ext_trans (ext_lst nd2) (ext_lst nc2)))))))))) _ _ upd_same
    have hEv : (upd (upd H20 d2 (HO.lst [V.ref a17, V.ref a18, V.ref a19, V.ref a20])) c2 (HO.lst (as0.map V.ref ++ [V.ref a10, V.ref a11, V.ref a12] ++ [V.ref a13, V.ref a14, V.ref a15, V.ref a16] ++ [V.ref a17, V.ref a18, V.ref a19, V.ref a20]))) c2 = some (HO.lst ((as0 ++ [a10, a11, a12, a13, a14, a15, a16, a17, a18, a19, a20]).map V.ref)) := by
      rw [upd_same, List.map_append, List.append_assoc, List.append_assoc]
      rfl
    have lAll : (as0 ++ [a10, a11, a12, a13, a14, a15, a16, a17, a18, a19, a20]).length = 21 := by rw [List.length_append, l0]; rfl
    generalize (upd (upd H20 d2 (HO.lst [V.ref a17, V.ref a18, V.ref a19, V.ref a20])) c2 (HO.lst (as0.map V.ref ++ [V.ref a10, V.ref a11, V.ref a12] ++ [V.ref a13, V.ref a14, V.ref a15, V.ref a16] ++ [V.ref a17, V.ref a18, V.ref a19, V.ref a20]))) = G2 at gAll hEmp hEv ⊢
    generalize (as0 ++ [a10, a11, a12, a13, a14, a15, a16, a17, a18, a19, a20]) = as at gAll hEv lAll
    clear gB
    clear g0 hp0 np0 l0
    obtain ⟨cut1, cut2, cut3, cut4, cut5⟩ := cut_ lAll
    walk_at "gos"
    refine lc_var rfl (SqL.of hEv) ?_
    refine comp_of (i0 := 0) (fun _ => rfl) (fun _ => rfl) hEv (fun j a h => ?good) (by omega) fun D1 H1 nD1 v1 => ?_
    case good =>
      obtain ⟨o, v, h1, _, k⟩ := gAll.own (i := 0 + j) (by rw [Nat.zero_add]; exact h)
      exact ⟨o, h1, k.err⟩
    rw [lAll] at v1
    refine lc_rng (by decide) (by decide) ?_
    refine comp_rng (fun _ => rfl) (fun _ => rfl) (by decide) fun D2 H2 nD2 v2 => ?_
    refine go_ne (v1.mono v2.ext |>.dp rfl) (v2.dp rfl) (by decide +kernel) (by decide +kernel) ?_
    have x2 : Ext G2 H2 := ext_trans v1.ext v2.ext
    walk_at "gos"
    refine lc_cut rfl (SqL.of (x2 _ _ hEv)) no_part a_part fun p3 n3 => ?_
    rw [cut1]
    refine comp_of (i0 := 0) (as := (as.drop 0).take 15) (fun _ => rfl) (fun _ => rfl) upd_same (good_ (gAll.mono (ext_trans x2 (ext_lst n3)))) (by rw [part_len lAll (by decide)]; decide) fun D3 H3 nD3 v3 => ?_
    rw [part_len lAll (by decide)] at v3
    walk_at "gos"
    intro r0 nr0
    walk_at "gos"
    intro s0 ns0
    walk_at "gos"
    refine ⟨s0, 15, [.ref r0], rfl, rfl, upd_same, by decide, by decide, by rw [sizeLine_eq]; exact Nat.le_of_ble_eq_true rfl, fun t0 nt0 => ?_⟩
    refine go_ne ((v3.mono (ext_trans (ext_lst nr0) (ext_trans (ext_lst ns0) (ext_lst nt0)))).dp_ kin15 rfl) (rep_rows (p := r0) (n := 15) (r := (rowOf true false false)) upd_same (mem_new nt0 (mem_new ns0 upd_same)) rfl) (by decide +kernel) (by decide +kernel) ?_
    have y0' := fun u : HO => ext_trans x2 (ext_trans (ext_lst n3) (ext_trans v3.ext (ext_trans (ext_lst nr0) (ext_trans (ext_lst ns0) (ext_lst (o := u) nt0)))))
    generalize hK0 : upd _ t0 _ = K0
    have y0 : Ext G2 K0 := by rw [← hK0]; exact y0' _
    clear y0' hK0
    walk_at "gos"
    refine lc_cut rfl (SqL.of (y0 _ _ hEv)) a_part a_part fun p4 n4 => ?_
    rw [cut2]
    refine comp_of (i0 := 15) (as := (as.drop 15).take 2) (fun _ => rfl) (fun _ => rfl) upd_same (good_ (gAll.mono (ext_trans y0 (ext_lst n4)))) (by rw [part_len lAll (by decide)]; decide) fun D4 H4 nD4 v4 => ?_
    rw [part_len lAll (by decide)] at v4
    walk_at "gos"
    intro r1 nr1
    walk_at "gos"
    intro s1 ns1
    walk_at "gos"
    refine ⟨s1, 2, [.ref r1], rfl, rfl, upd_same, by decide, by decide, by rw [sizeLine_eq]; exact Nat.le_of_ble_eq_true rfl, fun t1 nt1 => ?_⟩
    refine go_ne ((v4.mono (ext_trans (ext_lst nr1) (ext_trans (ext_lst ns1) (ext_lst nt1)))).dp_ kin2 rfl) (rep_rows (p := r1) (n := 2) (r := (rowOf false true false)) upd_same (mem_new nt1 (mem_new ns1 upd_same)) rfl) (by decide +kernel) (by decide +kernel) ?_
    have y1' := fun u : HO => ext_trans y0 (ext_trans (ext_lst n4) (ext_trans v4.ext (ext_trans (ext_lst nr1) (ext_trans (ext_lst ns1) (ext_lst (o := u) nt1)))))
    generalize hK1 : upd _ t1 _ = K1
    have y1 : Ext G2 K1 := by rw [← hK1]; exact y1' _
    clear y1' hK1
    walk_at "gos"
    refine lc_cut rfl (SqL.of (y1 _ _ hEv)) a_part no_part fun p5 n5 => ?_
    rw [cut3]
    refine comp_of (i0 := 17) (as := (as.drop 17).take 4) (fun _ => rfl) (fun _ => rfl) upd_same (good_ (gAll.mono (ext_trans y1 (ext_lst n5)))) (by rw [part_len lAll (by decide)]; decide) fun D5 H5 nD5 v5 => ?_
    rw [part_len lAll (by decide)] at v5
    walk_at "gos"
    intro r2 nr2
    walk_at "gos"
    intro s2 ns2
    walk_at "gos"
    refine ⟨s2, 4, [.ref r2], rfl, rfl, upd_same, by decide, by decide, by rw [sizeLine_eq]; exact Nat.le_of_ble_eq_true rfl, fun t2 nt2 => ?_⟩
    refine go_ne ((v5.mono (ext_trans (ext_lst nr2) (ext_trans (ext_lst ns2) (ext_lst nt2)))).dp_ kin4 rfl) (rep_rows (p := r2) (n := 4) (r := (rowOf false false true)) upd_same (mem_new nt2 (mem_new ns2 upd_same)) rfl) (by decide +kernel) (by decide +kernel) ?_
    have y2' := fun u : HO => ext_trans y1 (ext_trans (ext_lst n5) (ext_trans v5.ext (ext_trans (ext_lst nr2) (ext_trans (ext_lst ns2) (ext_lst (o := u) nt2)))))
    generalize hK2 : upd _ t2 _ = K2
    have y2 : Ext G2 K2 := by rw [← hK2]; exact y2' _
    clear y2' hK2
    walk_at "gos"
    refine lc_cut rfl (SqL.of (y2 _ _ hEv)) no_part a_part fun p6 n6 => ?_
    rw [cut4]
    refine comp_fld (as := (as.drop 0).take 10) (f := "given") (v := strA) (fun _ => rfl) (fun _ => rfl) upd_same (fld_ok T (gAll.mono (ext_trans y2 (ext_lst n6))) rfl) (by rw [part_len lAll (by decide)]; decide) fun D6 H6 nD6 e6x h6 => ?_
    rw [part_len lAll (by decide)] at h6
    walk_at "gos"
    intro s6 ns6
    walk_at "gos"
    refine ⟨s6, 10, [strA], rfl, rfl, upd_same, by decide, by decide, by rw [sizeLine_eq]; exact Nat.le_of_ble_eq_true rfl, fun t6 nt6 => ?_⟩
    refine go_ne (dp_flat (mem_new nt6 (mem_new ns6 h6)) rfl) (dp_flat (xs := List.replicate 10 strA) upd_same rfl) (by decide +kernel) (by decide +kernel) ?_
    have y6' := fun u : HO => ext_trans y2 (ext_trans (ext_lst n6) (ext_trans e6x (ext_trans (ext_lst ns6) (ext_lst (o := u) nt6))))
    generalize hK6 : upd _ t6 _ = K6
    have y6 : Ext G2 K6 := by rw [← hK6]; exact y6' _
    clear y6' hK6
    walk_at "gos"
    refine lc_cut rfl (SqL.of (y6 _ _ hEv)) a_part a_part fun p7 n7 => ?_
    rw [cut5]
    refine comp_fld (as := (as.drop 10).take 5) (f := "index") (v := V.non) (fun _ => rfl) (fun _ => rfl) upd_same (fld_ok T (gAll.mono (ext_trans y6 (ext_lst n7))) rfl) (by rw [part_len lAll (by decide)]; decide) fun D7 H7 nD7 e7x h7 => ?_
    rw [part_len lAll (by decide)] at h7
    walk_at "gos"
    intro s7 ns7
    walk_at "gos"
    refine ⟨s7, 5, [V.non], rfl, rfl, upd_same, by decide, by decide, by rw [sizeLine_eq]; exact Nat.le_of_ble_eq_true rfl, fun t7 nt7 => ?_⟩
    refine go_ne (dp_flat (mem_new nt7 (mem_new ns7 h7)) rfl) (dp_flat (xs := List.replicate 5 V.non) upd_same rfl) (by decide +kernel) (by decide +kernel) ?_
    have y7' := fun u : HO => ext_trans y6 (ext_trans (ext_lst n7) (ext_trans e7x (ext_trans (ext_lst ns7) (ext_lst (o := u) nt7))))
    generalize hK7 : upd _ t7 _ = K7
    have y7 : Ext G2 K7 := by rw [← hK7]; exact y7' _
    clear y7' hK7
    walk_at "gos"
    have gK := gAll.mono y7
    have hEvK := y7 _ _ hEv
    have hEmpK := y7 _ _ hEmp
    obtain ⟨b15, at15, X15, dx15, k15, m15⟩ := nth (i := 15) T lAll (by decide) gK rfl
    refine ⟨_, rfl, c2, _, 15, _, rfl, rfl, SqL.of hEvK, at15, ?_⟩
    refine ⟨b15, _, dx15, _, _, rfl, X15.x.rd, X15.nf, k15, m15, rfl, ?_⟩
    obtain ⟨b16, at16, X16, dx16, k16, m16⟩ := nth (i := 16) T lAll (by decide) gK rfl
    refine ⟨_, rfl, c2, _, 16, _, rfl, rfl, SqL.of hEvK, at16, ?_⟩
    refine ⟨b16, _, dx16, _, _, rfl, X16.x.rd, X16.nf, k16, m16, rfl, ?_⟩
    obtain ⟨b17, at17, X17, dx17, k17, m17⟩ := nth (i := 17) T lAll (by decide) gK rfl
    refine ⟨_, rfl, c2, _, 17, _, rfl, rfl, SqL.of hEvK, at17, ?_⟩
    refine ⟨b17, _, dx17, _, _, rfl, X17.x.rd, X17.nf, k17, m17, rfl, ?_⟩
    obtain ⟨b18, at18, X18, dx18, k18, m18⟩ := nth (i := 18) T lAll (by decide) gK rfl
    refine ⟨_, rfl, c2, _, 18, _, rfl, rfl, SqL.of hEvK, at18, ?_⟩
    refine ⟨b18, _, dx18, _, _, rfl, X18.x.rd, X18.nf, k18, m18, rfl, ?_⟩
    obtain ⟨b20, at20, X20, dx20, k20, m20⟩ := nth (i := 20) T lAll (by decide) gK rfl
    refine ⟨_, rfl, c2, _, 20, _, rfl, rfl, SqL.of hEvK, at20, ?_⟩
    refine ⟨b20, _, dx20, _, _, rfl, X20.x.rd, X20.nf, k20, m20, rfl, ?_⟩
    refine ⟨by rw [sizeLine_eq]; exact Nat.le_of_ble_eq_true rfl, fun u1 nu1 => ?_⟩
    refine ⟨u1, .list [.list [], .int 3, .int 4, .int 5, .int 6], rfl, .lst (SqL.of upd_same) (.cons (.lst (SqL.of (mem_new nu1 hEmpK)) .nil) (.cons (.int 3) (.cons (.int 4) (.cons (.int 5) (.cons (.int 6) .nil))))), by decide +kernel, by decide +kernel, by decide +kernel, by decide +kernel, ?_⟩
    walk_at "gos"
    intro u2 nu2
    walk_at "gos"
    intro u3 nu3
    refine ⟨u3, .list [.list [], .int 3, .int 4, .int 5, .int 6], rfl, .lst (SqL.of upd_same) (.cons (.lst (SqL.of (mem_new nu3 upd_same)) .nil) (.cons (.int 3) (.cons (.int 4) (.cons (.int 5) (.cons (.int 6) .nil))))), by decide +kernel, by decide +kernel, by decide +kernel, by decide +kernel, ?_⟩
    refine go_rEqS ?_
    exact congrArg V.bl (decide_eq_true rfl)
end
end EX

namespace EX
open At L2 PyProof.Rows PySem.Spec PySem
/-- the law's call, from what the top has left -/
theorem called_ {P : Program} {w : World} {K : PySem.W.Frag} {mg mb : Str → Option Value} {s₁ : Shared} (T : Top w K mg) (KX : K.In s₁.heap) (hns : s₁.heap.Ns mainGlobals mg) (hb : s₁.heap.Ns builtinsNs mb) (hbb : ∀ x : Str, x ≠ "__name__" → mb x = bootBuiltins x)
    (lim : s₁.heap.NoLimit) (hg : s₁.gens = #[]) (a : Addr) :
    codeAny (model P w) callerA (.call (.ref (cla K "law")) ⟨[.ref a], []⟩) (fun r s' => r = .ok (.ret (.bool true)) ∧ OldK s₁.heap s'.heap ∧ s'.os = s₁.os ∧ AllBare s'.gens) s₁ := by
  obtain ⟨fd, F⟩ := T.def_ 3
  have F : FunD K "law" "law" (defArgs (top 40)) (defBody (top 40)) (defScope (top 40)) [] [] (cla K "law") fd := F
  obtain ⟨_, _, dV, kV, doc, pm, an, cdv, ct, _, rfl, lk, hcd, d, _⟩ := F.ex
  obtain rfl : dV = .none := by
    rcases d with ⟨_, h⟩ | ⟨n, _⟩
    · exact h
    · exact absurd rfl n
  have e0 : Env0 P w K mg s₁.heap callerA [] s₁ none_ := ⟨rfl, ⟨KX, hns, ⟨mb, hb, hbb⟩, lim⟩, fun b o e => ⟨e, rfl⟩, Nat.le_refl _, trivial, fun b z => absurd (show b ∈ ([] : List Addr) from z) (by simp), fun b o z => (nomatch z), .of_eq hg⟩
  have room : Room 5 callerA := ⟨rfl, by decide, by decide⟩
  refine codeAny_call_function room.depth (KX _ _ lk) rfl sc_law.co sc_law.gen rfl (PySem.W.codeRec_of KX hcd) ?_
  refine (BindsTo.of_eq (binds := (["_law_script"] : List Str).zip [Value.ref a]) rfl) _ _ _ _ ?_
  refine wpAny_newFunctionEnv_cells sc_law.kind (fun y hy => .inl ?_) fun env he s1 x => ?_
  · rw [List.mem_singleton.mp (show y ∈ [(("_law_script" : Str), Value.ref a)] from hy)]
    rfl
  subst he
  have still := lim.keeps x.toInCall.keep
  refine ⟨still, codeAny_func ?_⟩
  obtain ⟨t, ht, q⟩ := body (P := P) (base := s₁.heap) T cdv s₁ (fun _ _ _ => False) (V.ref a)
  have rv : Vals [V.ref a] [Value.ref a] := .cons rfl .nil
  have I := inv_start (CX := CX0) (E := fun _ _ _ => False) (ps := ["_law_script"]) sc_law room.hd e0 rfl rv x
  refine wpAny_mono (ht.run [] s1 _ none_ _ I q) (fun fl s' z => ?_) fun e s' z => ?_
  · match fl, z with
    | .ret u, z =>
      obtain ⟨v, σ', H', J, r, rfl⟩ := z
      cases r
      exact ⟨rfl, OldK.of_keep fun b o e => J.base.keep b o e rfl (fun z => absurd (show b ∈ ([] : List Addr) from z) (by simp)) (fun z => absurd (show b ∈ ([] : List Addr) from z) (by simp)), J.os, J.bare⟩
    | .next, z => exact (let ⟨_, _, _, q⟩ := z; False.elim q)
    | .brk, z => exact (let ⟨_, _, _, q⟩ := z; False.elim q)
    | .cont, z => exact (let ⟨_, _, _, q⟩ := z; False.elim q)
  · exact wpAny_mono z (fun _ _ h => False.elim h) fun _ _ h => False.elim h
end EX

open PyProof.Rows PySem.Calls PySem.W PySem
theorem PySem.Challenge.cw_arrowtrios_k01_constants_and_errors_holds : PySem.Challenge.rw_arrowtrios_k01_constants_and_errors.Holds := by
  w_on; o_law
  refine HandSHeadRun.head_any (r := EX.R) (q := view EX.R.prog [40]) (H := EX.hk) (ob := EX.ob) (M := 9000) (loose := EX.loose) (d := HandSHeadRun.topDef EX.R.prog 40) (kwd := []) EX.ob_eq
    (by kernel_rfl) (fun s => by kernel_rfl) EX.run (by kernel_rfl) (by kernel_rfl) (by kernel_rfl) (by rfl) (by first | assumption | decide +kernel) (by decide +kernel) ⟨rfl, rfl, rfl, rfl, rfl, by decide +kernel⟩ ?hw ?hc
  case hw => w_witness2
  case hc =>
    refine Att.attach_call (l := PySem.Challenge.rw_arrowtrios_k01_constants_and_errors) (n := 63) rfl (by kernel_rfl) fun w s₀ s₁ mg mb fa o pm cd doc a vs ns G Y ho hd hcd hmg hobj hints hlen hg => ?_
    obtain ⟨K, KX, says, ex⟩ := Y
    have T : EX.Top w K mg := ⟨says, ex, ⟨_, KX, G.T.g⟩⟩
    have here : mg ("law" : PySem.Str) = some (.ref fa) := by
      have e : (HandSHeadRun.topDef EX.R.prog 40).name = ("law" : PySem.Str) := by kernel_rfl
      rw [← e]
      exact hmg
    cases here.symm.trans T.g_law
    exact EX.called_ T KX G.T.g G.T.b G.T.builtins G.T.nolimit hg a
