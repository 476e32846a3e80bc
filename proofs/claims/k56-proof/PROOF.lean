import PyProof.Rows.All
import Wide.All
import OpenK.AllK
import Wide.FinOn
import KE.KExcInit
import KE.KExcTry
import KE.KExcStr
import KE.KExcIs
import KE.RegKIsAll
import KE.KExcSuper
import KE.KEqDeep
import HandS.ExcInit
import HandS.ExcField
import HandS.Defaults
import HandS.IsInst
import HandS.Words
import KE.KIsAll
import HandS.Ends
import HandS.More
import HandS.Style
import HandS.NoneIn
import HandS.Property
import HandS.Wide
import HandS.Star
import HandS.Evl
import HandS.Text
import KE.DataMinMax
import HandS.Iter
import HandS.Walk
import KE.GoesNew
import HandS.SlotsOwn
import HandS.MakeKwOnly
import HandS.Replace
import HandS.List
import HandS.Gcd
import KE.KIndexOf
import HandS.HeadHook3
import HandS.HeadNt
import HandS.WideBits
import HandS.StrMore
import KE.KRevSl
import HandS.Head0
import HandS.Head1
import HandS.Head2
import HandS.Head3
import HandS.HeadEnd
import HandS.New
import HandS.Comp
import HandS.TupAny
import PySem.Challenge.RW_arrowtrios_k56_whole_numbers_kept_of_web
set_option Elab.async false
set_option linter.all false
set_option maxRecDepth 100000
set_option maxHeartbeats 0
namespace ErrKw
open PySem PySem.W PySem.Calls PyProof.Rows PySem.PX
/-- what is laid by the class's __new__: no args, and the exception itself -/
abbrev bare (C t : Addr) : Obj := excObj C t none .none
section
variable {w : World} {A : Around} {prog : Program}
variable {R : Result → Shared → Prop} {h : Heap} {g : Array GenState} {d : Drawn} {t : Nat} {os : OsState}
variable {nm q : Str} {C N : Addr} {bs bm tail : List Value} {hasD : Bool} {sn : List Str} {sub : List Value} {ab : Bool} {col : Option Bool} {dd : Option Addr} {k0 k1 k2 k3 k5 : Option Value} {B newId initId : String} {kws : List (Str × Value)}
theorem says (e : ∀ X : String, bm.contains (.type X) = tail.contains (.type X)) (X : String) {b : Bool} (i : tail.contains (.type X) = b) : (Value.ref C :: bm).contains (.type X) = b := by
  show ((Value.type X == Value.ref C) || bm.contains (.type X)) = b
  rw [e X, i]
  cases b <;> rfl
theorem look (F : ExcBaseFacts B newId initId tail) (e : ∀ X : String, bm.contains (.type X) = tail.contains (.type X)) (at_ : h.get? C = some (excClassObj nm q C N bs bm hasD sn sub ab col dd k0 k1 k2 k3 k5 newId))
    {Q : Unit → Shared → Prop} {E : Value → Shared → Prop} {M : Model} (go : Q () ⟨h, g, d, t, os⟩) : wpAny M A (checkBuiltinCall newId ⟨[.ref C], kws⟩) Q E ⟨h, g, d, t, os⟩ := by
  have s1 := says (C := C) e B F.hasB
  have s2 := F.noStar
  unfold checkBuiltinCall
  rw [F.newKind, F.newSplit, F.newRow]
  repeat' first
    | exact go
    | with_reducible refine wpAny_loadPart_at at_ ?_
    | (with_reducible refine wpAny_isSubtype_exc at_ ?_; rw [s1])
    | with_reducible refine wpAny_staticBase_exc at_ ?_
    | with_reducible refine wpAny_madeBy_exc at_ ?_
    | wp_step
    | simp only [bne_self_eq_false, Bool.false_eq_true, if_false]
theorem lays (F : ExcBaseFacts B newId initId tail) (e : ∀ X : String, bm.contains (.type X) = tail.contains (.type X)) (at_ : h.get? C = some (excClassObj nm q C N bs bm hasD sn sub ab col dd k0 k1 k2 k3 k5 newId))
    (go : R (.ok (.ret (.ref (h.objs.size + 1)))) ⟨(h.push (excTup [])).push (bare C h.objs.size), g, d, t, os⟩) : codeAny (model prog w) A (.builtin newId ⟨[.ref C], kws⟩) R ⟨h, g, d, t, os⟩ := by
  have s0 := F.ends
  have s1 := says (C := C) e B F.hasB
  have s2 := says (C := C) e "AttributeError" F.noAttr
  have s3 := says (C := C) e "NameError" F.noName
  refine codeAny_builtinAt F.entry (PySem.wpAt_bind ?_)
  show PySem.wpAt _ _ _ (stack >>= _) _ _ _
  refine PySem.wpAt_bind (PySem.wpAt_stack fun _ _ => PySem.wpAt_of_wpAny ?_)
  wp_walk
  rw [F.owner]
  refine PySem.wpAt_of_wpAny ?_
  repeat' first
    | with_reducible refine wpAny_madeHere_exc F.canon at_ ?_
    | with_reducible refine wpAny_loadPart_at at_ ?_
    | (with_reducible refine wpAny_isSubtype_exc at_ ?_; first | rw [s1] | rw [s2] | rw [s3])
    | wp_step
  show R _ ⟨_, _, _, _, _⟩
  rw [Heap.size_push]
  exact go
/-- type.__call__ of it -/
theorem made (F : ExcBaseFacts B newId initId tail) (e : ∀ X : String, bm.contains (.type X) = tail.contains (.type X)) (at_ : h.get? C = some (excClassObj nm q C N bs bm hasD sn sub ab col dd k0 k1 k2 k3 k5 newId)) {fI : Addr} {Q : Fin → Shared → Prop} {E : Value → Shared → Prop}
    (own : Looks (model prog w) h (typeLookup (.ref C) "__init__") (some (.ref fI))) (bnd : ∀ x, Looks (model prog w) h (bindSpecial (.ref fI) x) (.ref fI, [x]))
    (go : codeAny (model prog w) A (.call (.ref fI) ⟨[.ref (h.objs.size + 1)], kws⟩) (InitBack (h.objs.size + 1) fun r s' => match r with | .ok f => Q (.done f) s' | .error x => E x s') ⟨(h.push (excTup [])).push (bare C h.objs.size), g, d, t, os⟩) :
    wpAny (model prog w) A (Builtin.«type.__call__» ⟨[.ref C], kws⟩) Q E ⟨h, g, d, t, os⟩ := by
  repeat' first
    | with_reducible refine wpAny_loadPart_at at_ ?_
    | with_reducible refine wpAny_madeBy_exc at_ ?_
    | wp_step
  refine codeAny_call_builtin_code (Code.quiet_builtin _ F.quiet) (look F e at_ (lays F e at_ ?_))
  show wpAny _ _ _ _ _ ⟨_, _, _, _, _⟩
  generalize hh : (h.push (excTup [])).push (bare C h.objs.size) = h2 at go ⊢
  have keep : ∀ b o, h.get? b = some o → h2.get? b = some o := fun b o z => by rw [← hh]; exact Heap.get?_push_of_some _ (Heap.get?_push_of_some _ z)
  have new : h2.get? (h.objs.size + 1) = some (bare C h.objs.size) := by rw [← hh]; heap_get
  have c2 := keep _ _ at_
  have me : (Value.ref C :: bm).contains (.ref C) = true := by simp
  unfold isInstance
  repeat' first
    | with_reducible refine wpAny_loadPart_at new ?_
    | (with_reducible refine wpAny_isSubtype_exc c2 ?_; rw [me])
    | wp_step
  show wpAny _ _ (typeLookup (.ref C) "__init__") _ _ _
  refine (own.keeps keep).at (wpAny_holding (wpAny_bind (((bnd _).keeps keep).at (wpAny_bind (wpAny_call (codeAny_mono go fun r s' z => ?_))))))
  match r, z with
  | .error _, z => exact z
  | .ok (.ret v), z =>
    obtain ⟨rfl, z⟩ := z
    wp_walk
    exact z
/-- C(k = v, ..) -/
theorem called (F : ExcBaseFacts B newId initId tail) (e : ∀ X : String, bm.contains (.type X) = tail.contains (.type X)) (at_ : h.get? C = some (excClassObj nm q C N bs bm hasD sn sub ab col dd k0 k1 k2 k3 k5 newId)) {fI : Addr}
    (own : Looks (model prog w) h (typeLookup (.ref C) "__init__") (some (.ref fI))) (bnd : ∀ x, Looks (model prog w) h (bindSpecial (.ref fI) x) (.ref fI, [x]))
    (go : codeAny (model prog w) (A.under (.builtin "type.__call__" ⟨[.ref C], kws⟩)) (.call (.ref fI) ⟨[.ref (h.objs.size + 1)], kws⟩) (InitBack (h.objs.size + 1) R) ⟨(h.push (excTup [])).push (bare C h.objs.size), g, d, t, os⟩) :
    codeAny (model prog w) A (.call (.ref C) ⟨[], kws⟩) R ⟨h, g, d, t, os⟩ := by
  have l1 := tc_lookup
  have l2 := tc_bind (.ref C)
  have l3 := tc_sub
  have ty : (⟨h, g, d, t, os⟩ : Shared).TypeIs (.ref C) "type" := ⟨_, at_, rfl⟩
  refine codeAny_of_tree (show wpAny _ _ (callAny (.ref C) _) _ _ _ from ?_)
  repeat' first
    | assumption
    | with_reducible refine wpAny_loadPart_at at_ ?_
    | wp_step
  refine ⟨rfl, codeAny_call_builtin_at (Code.quiet_builtin _ (by decide +kernel)) entry_typeCall (check_slot tc_kind tc_split ?_ (tc_args _ _ _) (made F e at_ own bnd (codeAny_mono go fun r s' z => ?_)))⟩
  · intro A1 Q1 E1 s1 k1 go1
    obtain ⟨h1, _, _, _, _⟩ := s1
    have c1 : h1.get? C = _ := k1 _ _ at_
    have ty1 := c1
    unfold isInstance
    repeat' first
      | assumption
      | with_reducible refine wpAny_loadPart_at c1 ?_
      | wp_step
  · match r, z with
    | .error _, z => exact z
    | .ok (.ret _), z => exact z
variable {L : Addr} {h₀ : Heap} {m : Str → Option Value} {news : List (Addr × Obj)} {s : Shared} {K : Frag} {E : Value → Shared → Prop}
/-- the same, as the walk wants it: own class, own __init__, keywords alone -/
theorem call_ {fI : Addr} {Q : Value → Shared → Prop} (F : Fr h₀ L s.heap m) (X₀ : K.In h₀) (N' : News h₀ L s.heap news) (FB : ExcBaseFacts B newId initId tail) (own : findIn K (.ref C) "__init__" = some (some (.ref fI)))
    (is : excInitIn K C tail newId = true) (fn : isFn K (.ref fI) = true)
    (go : ∀ e t h', Fr h₀ L h' m → News h₀ L h' ((e, bare C t) :: (t, excTup []) :: news) → AllNe e news → AllNe t news → e ≠ t →
      codeAny (model prog w) (A.under (.builtin "type.__call__" ⟨[.ref C], kws⟩)) (.call (.ref fI) ⟨[.ref e], kws⟩) (InitBack e fun r s' => match r with | .ok (.ret v) => Q v s' | .ok _ => False | .error x => E x s') { s with heap := h' }) :
    wpAny (model prog w) A (call (.ref C) [] kws) Q E s := by
  have X := X₀.keeps F.keep
  obtain ⟨_, _, _, _, _, _, _, _, _, _, _, _, _, _, _, _, q⟩ := excInit_of X is
  obtain ⟨at_, e⟩ := q
  obtain ⟨oI, i1, i2⟩ := Option.map_eq_some_iff.mp (beq_iff_eq.mp (show (K.lookup fI).map (·.cls) == some (.type "function") from fn))
  obtain ⟨F2, N2, n1, n2⟩ := exc_two (o1 := excTup []) (o2 := bare C s.heap.objs.size) F N' rfl rfl
  have own' : Looks (model prog w) s.heap (typeLookup (.ref C) "__init__") (some (.ref fI)) := looks_findIn X own
  obtain ⟨hh, _, _, _, _⟩ := s
  exact wpAny_call (called FB e at_ own' (fun x => exc_bind (X _ _ i1) i2 x) (go _ _ _ F2 N2 n1 n2 (Nat.succ_ne_self _)))
end
end ErrKw

namespace EX
open L2 PyProof.Rows PySem.Spec PySem
/-- what the head tells of an own class of errors over a built-in one -/
structure XC (K : PySem.W.Frag) (C : Addr) (newId : String) (tail : List Value) : Prop where
  is : PySem.W.excInitIn K C tail newId = true
  over : PySem.W.excOver K C tail = true
  sa : PySem.W.findIn K (.ref C) "__setattr__" =
    some (some (.builtin "object.__setattr__"))
  rd : XfC K C
  keep : PySem.W.keepIn K (.ref C) = true
def xcB (K : PySem.W.Frag) (C : Addr) (newId : String) (tail : List Value) : Bool :=
  PySem.W.excInitIn K C tail newId && (PySem.W.excOver K C tail && (decide (PySem.W.findIn K (.ref C) "__setattr__" = some (some (.builtin "object.__setattr__"))) && (xfB K C && PySem.W.keepIn K (.ref C))))
theorem xcB_ok {K : PySem.W.Frag} {C : Addr} {newId : String} {tail : List Value} (h : xcB K C newId tail = true) : XC K C newId tail := by
  unfold xcB at h
  simp only [decide_eq_true_eq, Bool.and_eq_true] at h
  obtain ⟨a, b, c, d, e⟩ := h
  exact ⟨a, b, c, xfB_ok d, e⟩
section
variable {X : Cx} {pins : List (Addr × Obj)} {σ : L2.St} {H : Hp} {s : Shared} {a C : Addr} {f : Str} {y : V} {u : Value} {Q : Unit → Shared → Prop} {E : Value → Shared → Prop} {A : Around} {B newId : String} {tail : List Value}
/-- self.f = y, where self is new -/
theorem first (SF : StoreFacts B tail "object.__setattr__" "object") (T : XC X.K C newId tail) (tk : PySem.W.takerIn X.K C f = some none) (I : Inv X pins σ H s) (e : H a = some (exo a C none)) (ry : RelV y u)
    (go : ∀ dx s', H dx = none → dx ≠ a → Inv X pins σ (upd (upd H dx (exd dx [(f, y)])) a (exo a C (some dx))) s' → Q () s') : wpAny (model X.prog X.w) A (setAttr (.ref a) f u) Q E s := by
  obtain ⟨t1, at_⟩ := exo_at I.hok e
  refine PySem.W.set_plain (od := none) I.kIn ⟨at_, rfl, rfl, trivial⟩ T.sa (PySem.W.osa_openX (od := none) SF I.kIn ⟨at_, rfl, rfl, trivial⟩ T.over tk fun b => ?_)
  obtain ⟨cd, c1, c2⟩ := PySem.W.any_some T.rd.hdC
  obtain ⟨hp, g, d, t, os⟩ := s
  refine wpAny_bind (wpAny_pure (wpAny_bind (PySem.W.instanceDict_exc at_ (PySem.W.looks_clsIn I.kIn c1) c2 ?_)))
  show wpAny _ _ (Builtin.ObjectAttr.storeInDict hp.objs.size (.str f _) f u) _ _ _
  have la : a < hp.objs.size := Heap.lt_size at_
  have p1 : (hp.push (PySem.W.dictOf [] 0)).get? hp.objs.size = some (PySem.W.dictOf [] 0) := Heap.get?_push_size _ rfl
  refine HandSPX.store_in_new ⟨_, #[], 0, Heap.get?_update_of_ne _ (Nat.ne_of_lt la) p1, rfl, fun _ z => absurd z (by simp), fun _ => rfl⟩ fun h' tk' n1 sb => ?_
  -- as if the dict had been laid as it is in the end, and then the exception written
  obtain ⟨oD, eD⟩ : ∃ oD, h'.get? hp.objs.size = some oD := by
    obtain ⟨o, _, _, z, _⟩ := n1
    exact ⟨o, z⟩
  have alive : oD.isFreed = false := (Heap.get?_some_iff.mp eD).2
  have i1 : (hp.push oD).get? hp.objs.size = some oD := Heap.get?_push_size _ alive
  have rest : ∀ b, b ≠ a → b ≠ hp.objs.size → h'.get? b = hp.get? b := fun b n1 n2 =>
    (sb.2 b n2).trans ((Heap.get?_update_ne _ _ _ _ n1).trans (Heap.get?_push_ne _ _ _ n2))
  have J := I.laid (t' := t) (a := hp.objs.size) (o := exd hp.objs.size [(f, y)]) (h' := hp.push oD) (fun b o z => Heap.get?_push_of_some _ z) (Nat.le_refl _)
    (exd_ok (n1.at fun o z => by rw [i1, ← z, eD]) (relO_put (fs := []) ry fun _ => True.intro))
  have ea : upd H hp.objs.size (exd hp.objs.size [(f, y)]) a = some (exo a C none) := (upd_ne (Nat.ne_of_lt la)).trans e
  have new : h'.get? a = some ({ cls := .ref C, dict := some hp.objs.size, data := .fields #[.ref t1, .none, .none, .none, .bool false, .none] } : Obj) :=
    (sb.2 a (Nat.ne_of_lt la)).trans (Heap.get?_update_self _ (Heap.get?_push_of_some _ at_) rfl)
  have J2 := J.write (t' := tk') (x := a) (e := a) (o := exo a C (some hp.objs.size)) (h' := h') (by rw [ea]; exact True.intro) (.inl rfl)
    (fun b o n z => by
      rcases Heap.get?_push_cases z with ⟨rfl, rfl⟩ | z
      · exact eD
      · exact (rest b n (Nat.ne_of_lt (Heap.lt_size z))).trans z) ⟨_, new⟩ (exo_ok new)
  exact go _ _ (I.hok.fresh (Nat.le_refl _)) (Nat.ne_of_gt la) J2
/-- self.f = e of a new exception -/
def tFirst (K : PySem.W.Frag) (newId : String) (tail : List Value) (f : Str) (te to : TE) : TS := fun D σ H => te σ H fun y H1 => to σ H1 fun x H2 => ∃ a C, x = V.ref a ∧ XC K C newId tail ∧ PySem.W.takerIn K C f = some none ∧ H2 a = some (exo a C none) ∧
  ∀ dx, H2 dx = none → dx ≠ a → D.nx σ (upd (upd H2 dx (exd dx [(f, y)])) a (exo a C (some dx)))
theorem ps_first {e o : Expr} {te to : TE} {q pos : Pos} (SF : StoreFacts B tail "object.__setattr__" "object") (he : PE X e te) (ho : PE X o to) (sw : swapsWith e (some (.Attribute o f q)) pos.line X.env = pure false := by rfl) :
    PS X (.Assign [.Attribute o f q] e pos) (tFirst X.K newId tail f te to) where
  run := by
    intro pins s σ H D I h
    refine plainObj_wpAny_Assign_Attribute (thn (he.run pins s σ H _ I h) fun v s1 hv => ?_) sw
    obtain ⟨y, H1, I1, ry, h1⟩ := hv
    refine thn (ho.run pins s1 σ H1 _ I1 h1) fun v2 s2 hv2 => ?_
    obtain ⟨_, H2, I2, rx, a, C, rfl, T, tk, e2, h2⟩ := hv2
    cases rx
    exact first SF T tk I2 e2 ry fun dx s3 n1 n2 J => ⟨σ, _, J, h2 dx n1 n2⟩
/-- what an __init__ that keeps one argument promises -/
def spIni (K : PySem.W.Frag) (newId : String) (tail : List Value) (f : Str) : Sp := fun vs H Q _ => ∃ a C v, vs = [V.ref a, v] ∧ XC K C newId tail ∧ PySem.W.takerIn K C f = some none ∧ H a = some (exo a C none) ∧
  ∀ dx, H dx = none → dx ≠ a → Q .non (upd (upd H dx (exd dx [(f, v)])) a (exo a C (some dx)))
end
section
variable {P : Program} {w : World} {K : PySem.W.Frag} {mg : Str → Option Value} {base : Heap} {B newId : String} {tail : List Value}
theorem ini {st : Stmt} {q x f : Str} {p1 p2 p3 p4 : Pos} {fI : Addr} {fd : FuncData} (sc : FnScope ["self", x] ["self", x] (defScope st)) (v1 : Vis (defScope st) "self") (v2 : Vis (defScope st) x) (d1 : (x == ("__debug__" : Str)) = false) (d2 : (x == ("__classdict__" : Str)) = false)
    (hb : defBody st = [.Assign [.Attribute (.Name "self" p1) f p2] (.Name x p3) p4]) (F : FunD K "__init__" q (defArgs st) (defBody st) (defScope st) [] [] fI fd) (SF : StoreFacts B tail "object.__setattr__" "object") :
    FnOk P w K mg base CX0 1 fI fd ["self", x] (spIni K newId tail f) := by
  refine F.ok sc (fun vs H Q E h => ?_) fun cdv A outer s H vs Q E hr h => ⟨tFirst K newId tail f (tVar 1) (tVar 0), ?_, ?_⟩
  · obtain ⟨_, _, _, rfl, _⟩ := h
    rfl
  · rw [hb]
    exact PSs.nox (pss_one (ps_first SF (pv 1 rfl v2 d1 d2) (pv 0 rfl v1)))
  · obtain ⟨a, C, v, rfl, T, tk, e, go⟩ := h
    exact ⟨v, rfl, .ref a, rfl, a, C, rfl, T, tk, e, go⟩
end
/-! ### C(..): laid, then its __init__ -/
section
variable {X : Cx} {pins : List (Addr × Obj)} {σ : L2.St} {B newId initId : String} {tail : List Value} {C fI : Addr} {k : Nat} {fd : FuncData} {ps : List Str} {sp : Sp}
/-- what is asked of the arguments vs -/
def rNew (C : Addr) (sp : Sp) : List V → Hp → VK → Prop := fun vs H Q => ∀ a, H a = none → sp (.ref a :: vs) (upd H a (exo a C none)) (fun v H2 => v = .non ∧ Q (.ref a) H2) fun _ _ _ => False
theorem inside {H : Hp} {Q : VK} {us ws : List Value} {vs : List V} {kws : List (Str × Value)} {hp : Heap} {g : Array GenState} {d : Drawn} {t : Nat} {os : OsState} {args : List Value} (F : FnOk X.prog X.w X.K X.mg X.base CX0 k fI fd ps sp) (hr : Room (k + 1) X.A)
    (bt : ∀ (s : Shared) (e : Value), X.K.In s.heap → BindsTo s fd ⟨e :: us, kws⟩ (ps.zip (e :: ws))) (I : Inv X pins σ H ⟨hp, g, d, t, os⟩) (r : Vals vs ws) (q : rNew C sp vs H Q) :
    codeAny (model X.prog X.w) (X.A.under (.builtin "type.__call__" ⟨.ref C :: us, kws⟩)) (.call (.ref fI) ⟨.ref (hp.objs.size + 1) :: us, kws⟩)
      (PySem.W.InitBack (hp.objs.size + 1) fun r s' => match r with | .ok (.ret v) => EP X pins σ Q v s' | .ok _ => False | .error x => X.xe x s') ⟨(hp.push (PySem.W.excTup args)).push (PySem.W.excObj C hp.objs.size none .none), g, d, t, os⟩ := by
  have up : hp.objs.size ≤ hp.objs.size + 1 := Nat.le_succ _
  have at_ : ((hp.push (PySem.W.excTup args)).push (PySem.W.excObj C hp.objs.size none .none)).get? (hp.objs.size + 1) = some (PySem.W.excObj C hp.objs.size none .none) := by heap_get
  have J := I.laid (t' := t) (a := hp.objs.size + 1) (o := exo (hp.objs.size + 1) C none) (h' := (hp.push (PySem.W.excTup args)).push (PySem.W.excObj C hp.objs.size none .none))
    (fun b o z => Heap.get?_push_of_some _ (Heap.get?_push_of_some _ z)) up (exo_ok at_)
  have rr : Vals (V.ref (hp.objs.size + 1) :: vs) (Value.ref (hp.objs.size + 1) :: ws) := .cons rfl r
  refine codeAny_mono (F.run _ X.stack _ _ _ _ _ _ _ (hr.make C us kws) (J.env0.make C us kws) (bt _ _ J.kIn) rr (q _ (I.hok.fresh up))) fun res s' z => ?_
  match res, z with
  | .ok (.ret u), z =>
    obtain ⟨v, H2, J2, rv, rfl, q2⟩ := J.after z
    cases rv
    exact ⟨rfl, .ref _, H2, J2, rfl, q2⟩
variable {e : Expr} {es : List Expr} {kws : List Keyword} {x : Str} {ta : TA} {p pos : Pos}
/-- C(e, ..) -/
theorem pe_new (FB : ExcBaseFacts B newId initId tail) (T : XC X.K C newId tail) (iC : PySem.W.findIn X.K (.ref C) "__init__" = some (some (.ref fI))) (tI : PySem.W.typeIn X.K (.ref fI) = some (.type "function")) (F : FnOk X.prog X.w X.K X.mg X.base CX0 k fI fd ps sp) (hr : Room (k + 1) X.A)
    (hb : Binds X.K fd ps []) (hg : Gl X x) (hm : X.mg x = some (.ref C)) (ha : PA X (e :: es) ta) (hd : (x == ("__debug__" : Str)) = false := by decide)
    (hpl : (backTo pos (starEach es X.env)).any (·.1) = false := by rfl) (he : starEach (e :: es) X.env = (false, eval e X.env) :: starEach es X.env := by rfl) :
    PE X (.Call (.Name x p) (e :: es) [] pos) (fun σ H Q => ta σ H (fun vs H1 => vs.length ≤ 1000 ∧ rNew C sp vs H1 Q)) where
  run := by
    intro pins s σ H Q I h
    refine wpAny_Call_Name_kw (ld_glob I hg hm (PySem.W.callWith_K (h₀ := X.base) I.ok.mod.kin T.keep (thn (ha.run pos pins s σ H _ I h) fun us s1 z => ?_) he hpl) hd)
    obtain ⟨vs, H1, J, r, l, q⟩ := z
    refine ⟨J.kIn, ?_⟩
    obtain ⟨_, _, _, _, _, _, _, _, _, _, _, _, _, _, _, _, c1, c2⟩ := PySem.W.excInit_of J.kIn T.is
    obtain ⟨hp, _, _, _, _⟩ := s1
    have small : us.length ≤ sizeLine := by rw [← r.length, sizeLine_eq]; omega
    have full : ∀ a : Addr, H1 a = none → vs.length + 1 = ps.length := fun a na => F.len _ _ _ _ (q a na)
    have fresh : H1 hp.objs.size = none := J.hok.fresh (Nat.le_refl _)
    refine wpAny_call (codeAny_mono (PySem.PX.call_own FB c2 c1 (PySem.W.looks_findIn J.kIn iC) (fun self => PySem.W.bind_fn J.kIn self tI) small (inside F hr (ws := us) (fun s2 e2 k2 => ?_) J r q)) fun res s2 z => ?_)
    · have := hb s2 (e2 :: us) k2 (by rw [List.append_nil, List.length_cons, ← r.length]; exact full _ fresh)
      rw [List.append_nil] at this
      exact this
    · exact z
/-- C(k = e) -/
theorem pe_newK {y : Str} {tk : TA} (FB : ExcBaseFacts B newId initId tail) (T : XC X.K C newId tail) (iC : PySem.W.findIn X.K (.ref C) "__init__" = some (some (.ref fI))) (tI : PySem.W.typeIn X.K (.ref fI) = some (.type "function")) (F : FnOk X.prog X.w X.K X.mg X.base CX0 k fI fd ps sp) (hr : Room (k + 1) X.A)
    (bk : ∀ (s : Shared) (e w : Value), BindsTo s fd ⟨[e], [(y, w)]⟩ (ps.zip [e, w])) (hg : Gl X x) (hm : X.mg x = some (.ref C)) (hk : PK X kws tk) (hd : (x == ("__debug__" : Str)) = false := by decide)
    (h1 : (backToKw pos (keywordEach kws X.env)).all (·.1.isSome) = true := by rfl) (h2 : (backToKw pos (keywordEach kws X.env)).filterMap (·.1) = [y] := by rfl)
    (h3 : ((backTo pos (starEach [] X.env)).any (·.1) || (backToKw pos (keywordEach kws X.env)).any (·.1.isNone)) = false := by rfl) :
    PE X (.Call (.Name x p) [] kws pos) (fun σ H Q => tk σ H (fun vs H1 => vs.length = 1 ∧ rNew C sp vs H1 Q)) where
  run := by
    intro pins s σ H Q I h
    refine wpAny_Call_Name_kw (ld_glob I hg hm (PySem.W.callWith_KW0 (h₀ := X.base) I.ok.mod.kin T.keep h1 (thn (hk.run pos pins s σ H _ I h) fun us s1 z => ?_) h3) hd)
    obtain ⟨vs, H1, J, r, l, q⟩ := z
    refine ⟨J.kIn, ?_⟩
    rw [h2]
    obtain ⟨_, _, _, _, _, _, _, _, _, _, _, _, _, _, _, _, c1, c2⟩ := PySem.W.excInit_of J.kIn T.is
    obtain ⟨hp, _, _, _, _⟩ := s1
    obtain ⟨u, rfl⟩ : ∃ u, us = [u] := by
      have n : us.length = 1 := r.length.symm.trans l
      match us, n with
      | [u], _ => exact ⟨u, rfl⟩
    exact wpAny_call (codeAny_mono (ErrKw.called FB c2 c1 (PySem.W.looks_findIn J.kIn iC) (fun self => PySem.W.bind_fn J.kIn self tI) (inside F hr (ws := [u]) (us := []) (fun s2 e2 _ => bk s2 e2 u) J r q)) fun res s2 z => z)
/-- C() -/
theorem pe_new0 (FB : ExcBaseFacts B newId initId tail) (T : XC X.K C newId tail) (iC : PySem.W.findIn X.K (.ref C) "__init__" = some (some (.ref fI))) (tI : PySem.W.typeIn X.K (.ref fI) = some (.type "function")) (F : FnOk X.prog X.w X.K X.mg X.base CX0 k fI fd ["self"] sp) (hr : Room (k + 1) X.A)
    (hb : Binds X.K fd ["self"] []) (hg : Gl X x) (hm : X.mg x = some (.ref C)) (hd : (x == ("__debug__" : Str)) = false := by decide) :
    PE X (.Call (.Name x p) [] [] pos) (fun _ H Q => rNew C sp [] H Q) where
  run := by
    intro pins s σ H Q J q
    refine wpAny_Call_Name_kw (ld_glob J hg hm (PySem.W.callWith_K0 J.kIn T.keep ?_) hd)
    obtain ⟨_, _, _, _, _, _, _, _, _, _, _, _, _, _, _, _, c1, c2⟩ := PySem.W.excInit_of J.kIn T.is
    obtain ⟨hp, _, _, _, _⟩ := s
    refine wpAny_call (codeAny_mono (PySem.PX.call_own FB c2 c1 (PySem.W.looks_findIn J.kIn iC) (fun self => PySem.W.bind_fn J.kIn self tI) (Nat.zero_le _) (inside F hr (ws := []) (us := []) (fun s2 e2 k2 => ?_) J .nil q)) fun res s2 z => z)
    exact hb s2 [e2] k2 rfl
/-! ### Base.__init__(self) -/
def rUp (K : PySem.W.Frag) (newId : String) (tail : List Value) : List V → Hp → VK → Prop := fun vs H Q => ∃ a C, vs = [V.ref a] ∧ XC K C newId tail ∧ H a = some (exo a C none) ∧ Q .non H
def spUp (K : PySem.W.Frag) (newId : String) (tail : List Value) : Sp := fun vs H Q _ => rUp K newId tail vs H Q
theorem call_up (FB : ExcBaseFacts B newId initId tail) : CallR X (.builtin initId) (rUp X.K newId tail) := by
  intro pins s σ H
  intro xs us Q I r q
  obtain ⟨a, C, rfl, T, e, q⟩ := q
  obtain ⟨_, _, _, _, _, _, _, _, _, _, _, _, _, _, _, _, c1, c2⟩ := PySem.W.excInit_of I.kIn T.is
  obtain ⟨t1, at_⟩ := exo_at I.hok e
  match us, r with
  | [_], .cons rfl .nil =>
    obtain ⟨hp, g, d, t, os⟩ := s
    refine wpAny_call (PySem.PX.init_base FB c2 c1 at_ (Nat.zero_le _) fun h' t2 keep new => ?_)
    have J := I.write (t' := t) (x := a) (e := a) (o := exo a C none) (h' := h') (by rw [e]; exact True.intro) (.inl rfl) keep ⟨_, new⟩ (exo_ok new)
    have same : upd H a (exo a C none) = H := by
      funext b
      unfold upd
      split
      · next z => rw [z, e]
      · rfl
    rw [same] at J
    exact ⟨.non, H, J, rfl, q⟩
/-- what the head tells of a class whose __init__ is called off it -/
def offB (K : PySem.W.Frag) (C f : Addr) : Bool := decide (PySem.W.specialIn K (.ref C) "__getattribute__" = some (some (.builtin "type.__getattribute__"))) && (PySem.W.readsIn K C (.type "type") && ((match PySem.W.findCls K (.ref C) (.type "type") "__init__" with | some (.val (.ref g)) => decide (g = f) | _ => false) && (PySem.W.handedIn (.ref f) && PySem.W.keepIn K (.ref f))))
theorem pe_off {CX : CXT} {p1 p2 p3 p4 : Pos} (o : offB X.K C fI = true) (F : FnOk X.prog X.w X.K X.mg X.base CX k fI fd ps sp) (hr : Room k X.A) (hb : Binds X.K fd ps [])
    (hx : Passes CX X fun _ _ _ => False) (hg : Gl X "NoAnswer") (hm : X.mg "NoAnswer" = some (.ref C)) (ha : PA X [.Name "self" p4] ta) {pl : Sem Bool}
    (hc : eval (.Call (.Attribute (.Name "NoAnswer" p1) "__init__" p2) [.Name "self" p4] [] p3) X.env = do { let ov ← eval (.Name "NoAnswer" p1) X.env; standAt p2.atName; let (f, first) ← holding [ov] (getMethod ov "__init__" pl); callWith p3 f first (backTo p3 (starEach [.Name "self" p4] X.env)) (backToKw p3 (keywordEach [] X.env)) } := by rfl)
    (he : starEach [.Name "self" p4] X.env = (false, eval (.Name "self" p4) X.env) :: starEach [] X.env := by rfl) :
    PE X (.Call (.Attribute (.Name "NoAnswer" p1) "__init__" p2) [.Name "self" p4] [] p3) (fun σ H Q => ta σ H (fun vs H1 => sp vs H1 Q (fun _ _ _ => False))) where
  run := by
    intro pins s σ H Q I h
    unfold offB at o
    simp only [decide_eq_true_eq, Bool.and_eq_true] at o
    obtain ⟨o1, o2, o3, o4, o5⟩ := o
    have o3 : PySem.W.findCls X.K (.ref C) (.type "type") "__init__" = some (.val (.ref fI)) := by
      split at o3
      · next e => rw [e, of_decide_eq_true o3]
      · cases o3
    refine PySem.W.methodCall_KW (ld_glob I hg hm (PySem.W.method_cls I.kIn o1 (PySem.W.cls_value I.kIn o2 o3 o4 ?_))) hc
    have J := I.tok (s.toks + 1)
    refine PySem.W.callWith_K (first := []) (h₀ := X.base) I.ok.mod.kin o5 (thn (ha.run _ pins _ σ H _ J h) fun us s1 z => ?_) he
    obtain ⟨vs, H1, J1, r, q⟩ := z
    exact ⟨J1.kIn, run_fn F hr hb .nil hx J1 r (by rw [List.append_nil]; exact q)⟩
/-! ### reading, asking -/
/-- a.f of such a one -/
def tFld (K : PySem.W.Frag) (f : Str) (te : TE) : TE := fun σ H Q => te σ H fun x H1 => ∃ a C dx fs v, x = V.ref a ∧ XfC K C ∧ PySem.W.findIn K (.ref C) f = some none ∧ H1 a = some (exo a C (some dx)) ∧ H1 dx = some (exd dx fs) ∧ fs.lookup f = some v ∧ Q v H1
theorem pe_fld {te : TE} {f : Str} (he : PE X e te) (hb : attributeBase e f X.env (eval e X.env) = eval e X.env := by rfl) : PE X (.Attribute e f pos) (tFld X.K f te) where
  run := by
    intro pins s σ H Q I h
    refine attr_of hb (thn (he.run pins s σ H _ I h) fun u s1 z => ?_)
    obtain ⟨_, H1, J, r, a, C, dx, fs, v, rfl, T, no, e1, e2, l, q⟩ := z
    cases r
    obtain ⟨t1, at_⟩ := exo_at J.hok e1
    obtain ⟨mA, n1, rel⟩ := exd_at J.hok e2
    obtain ⟨od, i1, i2⟩ := lookIn_ns n1
    obtain ⟨w, w1, w2⟩ := RelO.some_of (v := v) (o := mA f) (by rw [← l]; exact rel f)
    exact HandSPX.exc_get (od := some od) J.kIn ⟨at_, rfl, rfl, i1⟩ T.ga T.gg T.exC (PySem.W.findObj_own T.hdC no rfl (by rw [i2, w1])) (handed_of w2) ⟨v, H1, J.tok _, w2, q⟩
/-- what isinstance wants of the class -/
def isB (K : PySem.W.Frag) (C : Addr) : Bool := (PySem.W.clsIn K C).isSome && (decide (PySem.W.findIn K (.ref C) "__class__" = some (some (.builtin "object.__class__"))) && (decide (PySem.W.specialIn K (.builtin "object.__class__") "__get__" = some (some (.builtin "getset_descriptor.__get__"))) &&
  (decide (PySem.W.takesIn K (.builtin "object.__class__") = some true) && decide (PySem.W.mroIn K C (.type "object") = some true))))
/-- an error that stands in the heap, its dict too -/
def Err (H : Hp) (a C : Addr) : Prop := H a = some (exo a C none) ∨ ∃ dx fs, H a = some (exo a C (some dx)) ∧ H dx = some (exd dx fs)
def rIsE (K : PySem.W.Frag) : List V → Hp → VK → Prop := fun xs H Q => ∃ a C c u b, xs = [V.ref a, c] ∧ Err H a C ∧ XfC K C ∧ isB K C = true ∧ ClsV c u ∧ PySem.W.kitOne K (.ref C) u = some b ∧ Q (.bl b) H
theorem call_isE_ : CallR X (.builtin "isinstance") (rIsE X.K) := by
  intro pins s σ H
  intro xs us Q I r q
  obtain ⟨a, C, c, u, b, rfl, er, T, is, cl, k, q⟩ := q
  unfold isB at is
  simp only [Bool.and_eq_true, decide_eq_true_eq] at is
  obtain ⟨k1, k2, k3, k4, k5⟩ := is
  obtain ⟨ox, od, inst⟩ : ∃ ox od, PySem.W.InstAt s.heap a ox C od := by
    rcases er with e1 | ⟨dx, fs, e1, e2⟩
    · obtain ⟨t1, at_⟩ := exo_at I.hok e1
      exact ⟨_, none, at_, rfl, rfl, trivial⟩
    · obtain ⟨t1, at_⟩ := exo_at I.hok e1
      obtain ⟨mA, n1, _⟩ := exd_at I.hok e2
      obtain ⟨od, i1, _⟩ := lookIn_ns n1
      exact ⟨_, some od, at_, rfl, rfl, i1⟩
  match us, r with
  | [_, _], .cons rfl (.cons r2 .nil) =>
    cases cl.eq r2
    exact PySem.W.kia_one (PySem.W.kitx_exc k1 T.ga T.gg T.exC k2 k3 k4 k5) I.kIn inst k (fun z => nomatch z) fun tk => ⟨.bl b, H, I.tok tk, rfl, q⟩
/-- repr of a list (of lists ..) of plain values -/
def rRepr (K : PySem.W.Frag) : List V → Hp → VK → Prop := fun xs H Q => ∃ a d, xs = [V.ref a] ∧ Dp K H (.ref a) d ∧ d.showable = true ∧ d.hasDict = false ∧ d.depth ≤ 20 ∧ d.shown.length ≤ sizeLine ∧ Q (.str d.shown) H
theorem call_repr_ (hg : X.A.guards = some []) (hu : X.A.units + 64 < cLine) : CallR X (.builtin "repr") (rRepr X.K) := by
  intro pins s σ H
  intro xs us Q I r q
  obtain ⟨a, d, rfl, dp, sh, nd, dd, sz, q⟩ := q
  match us, r with
  | [_], .cons rfl .nil =>
    obtain ⟨as, rd⟩ := Dp.reads I d (.ref a) (.ref a) dp rfl
    exact repr_of_reads' rd sh (PyData.noDict_hsm nd) hg (by omega) (fun _ _ e => e) (fun h' u tk k => ⟨.str _, H, I.kept k, ⟨_, rfl⟩, q⟩) sz
end
end EX

namespace At
open L2 PyProof.Rows PySem.Spec PySem
/-! ### steps of a reading -/
abbrev St' := List (Option V)
section
variable {K : PySem.W.Frag} {σ : L2.St} {H : Hp} {D : Ends} {Q : VK} {QT : Bool → Hp → Prop} {QA : List V → Hp → Prop} {v x y : V} {ta tb tc te : TE} {t u : TT} {tr : TA} {s1 s2 : TS} {i : Nat} {r r' : R2} {g : TG} {J : It} {R : It → Hp → Prop}
theorem go_var (h : σ[i]? = some (some v)) (q : Q v H) : tVar i σ H Q := ⟨v, h, q⟩
theorem go_c (q : Q v H) : tC v σ H Q := q
theorem go_op (h : ta σ H fun x H1 => tb σ H1 fun y H2 => r x y H2 Q) : tOp r ta tb σ H Q := h
theorem go_un {r : V → Hp → VK → Prop} (h : ta σ H fun x H1 => r x H1 Q) : tUn r ta σ H Q := h
theorem go_rI0 {f : Int → Int → V} {a b : Int} (q : Q (f a b) H) : rI0 f (.int a) (.int b) H Q := ⟨a, b, rfl, rfl, q⟩
theorem go_rI {C : Int → Int → Prop} {f : Int → Int → V} {a b : Int} (c : C a b) (q : Q (f a b) H) : rI C f (.int a) (.int b) H Q := ⟨a, b, rfl, rfl, c, q⟩
theorem go_rU {f : Int → V} {a : Int} (q : Q (f a) H) : rU f (.int a) H Q := ⟨a, rfl, q⟩
theorem go_rEqI {a b : Int} (q : Q (.bl (decide (a = b))) H) : rEq (.int a) (.int b) H Q := ⟨rfl, by
  have e : decide (V.int a = V.int b) = decide (a = b) := by
    by_cases h : a = b
    · rw [h]; simp
    · rw [decide_eq_false h, decide_eq_false (fun z => h (V.int.inj z))]
  rw [e]; exact q⟩
theorem go_rNeI {a b : Int} (q : Q (.bl (!decide (a = b))) H) : rNe (.int a) (.int b) H Q := ⟨rfl, by
  have e : decide (V.int a = V.int b) = decide (a = b) := by
    by_cases h : a = b
    · rw [h]; simp
    · rw [decide_eq_false h, decide_eq_false (fun z => h (V.int.inj z))]
  rw [e]; exact q⟩
theorem go_rEqS {a b : Str} (q : Q (.bl (decide (a = b))) H) : rEq (.str a) (.str b) H Q := ⟨rfl, by
  have e : decide (V.str a = V.str b) = decide (a = b) := by
    by_cases h : a = b
    · rw [h]; simp
    · rw [decide_eq_false h, decide_eq_false (fun z => h (V.str.inj z))]
  rw [e]; exact q⟩
theorem go_rNeS {a b : Str} (q : Q (.bl (!decide (a = b))) H) : rNe (.str a) (.str b) H Q := ⟨rfl, by
  have e : decide (V.str a = V.str b) = decide (a = b) := by
    by_cases h : a = b
    · rw [h]; simp
    · rw [decide_eq_false h, decide_eq_false (fun z => h (V.str.inj z))]
  rw [e]; exact q⟩
theorem go_truL {p : Addr} {xs : List V} (h : SqL K H p xs) (q : QT (!xs.isEmpty) H) : ∃ k, TruV K (.ref p) H k ∧ QT k H := ⟨_, .inl ⟨xs, h, rfl⟩, q⟩
theorem go_truT {p : Addr} {xs : List V} (h : SqT K H p xs) (q : QT (!xs.isEmpty) H) : ∃ k, TruV K (.ref p) H k ∧ QT k H := ⟨_, .inr (.inl ⟨xs, h, rfl⟩), q⟩
theorem go_test (h : ta σ H fun x H' => ∃ k, x = .bl k ∧ QT k H') : tTest ta σ H QT := h
theorem go_tB (h : ta σ H fun x H' => ∃ k, x = .bl k ∧ QT k H') : tB ta σ H QT := h
theorem go_bl {b : Bool} (q : QT b H) : ∃ k, V.bl b = .bl k ∧ QT k H := ⟨b, rfl, q⟩
theorem go_and (h : t σ H fun c H1 => if c = true then u σ H1 QT else QT false H1) : tAnd t u σ H QT := h
theorem go_or (h : t σ H fun c H1 => if c = true then QT true H1 else u σ H1 QT) : tOr t u σ H QT := h
theorem go_not (h : t σ H fun c H1 => QT (!c) H1) : tNot t σ H QT := h
theorem go_andV (h : ta σ H fun x H1 => ∃ c, x = .bl c ∧ if c = true then tb σ H1 Q else Q (.bl false) H1) : tAndV ta tb σ H Q := h
theorem go_orV (h : ta σ H fun x H1 => ∃ c, x = .bl c ∧ if c = true then Q (.bl true) H1 else tb σ H1 Q) : tOrV ta tb σ H Q := h
theorem go_notV (h : ta σ H fun x H1 => ∃ c, x = .bl c ∧ Q (.bl (!c)) H1) : tNotV ta σ H Q := h
theorem go_tIf (h : t σ H fun c H1 => if c = true then ta σ H1 Q else tb σ H1 Q) : tIf t ta tb σ H Q := h
theorem go_chain (h : ta σ H fun x H1 => tb σ H1 fun y H2 => r x y H2 fun z H3 => ∃ k, z = .bl k ∧ (if k = true then tc σ H3 fun w' H4 => r' y w' H4 Q else Q (.bl false) H3)) : tChain r r' ta tb tc σ H Q := h
theorem go_cons (h : ta σ H fun x H1 => tr σ H1 fun xs H2 => QA (x :: xs) H2) : tCons ta tr σ H QA := h
theorem go_nil (q : QA [] H) : tNil σ H QA := q
theorem go_cb {r : List V → Hp → VK → Prop} (h : tr σ H fun vs H1 => r vs H1 Q) : tCB r tr σ H Q := h
theorem go_call {sp : Sp} {E : XK} (h : tr σ H fun vs H1 => sp vs H1 Q E) : tCall sp [] E tr σ H Q := by
  have e : (fun vs H1 => sp (vs ++ []) H1 Q E) = (fun vs H1 => sp vs H1 Q E) := by
    funext vs H1
    rw [List.append_nil]
  show tr σ H fun vs H1 => sp (vs ++ []) H1 Q E
  rw [e]
  exact h
theorem go_tup (h : tr σ H fun xs H1 => xs.length ≤ sizeLine ∧ ∀ p, H1 p = none → Q (.ref p) (upd H1 p (.tup xs))) : tTup tr σ H Q := h
theorem go_lst (h : tr σ H fun xs H1 => xs.length ≤ sizeLine ∧ ∀ p, H1 p = none → Q (.ref p) (upd H1 p (.lst xs))) : tLst tr σ H Q := h
theorem go_sl {r : V → Option Int → Option Int → Hp → VK → Prop} {tl th : TO} (h : te σ H fun x H1 => tl σ H1 fun l H2 => th σ H2 fun u H3 => r x l u H3 Q) : tSl r te tl th σ H Q := h
theorem go_noPart {QO : Option Int → Hp → Prop} (q : QO none H) : tNoPart σ H QO := q
theorem go_part {QO : Option Int → Hp → Prop} (h : te σ H fun x H1 => ∃ i, x = .int i ∧ QO (some i) H1) : tPart te σ H QO := h
theorem go_int {P : Int → Prop} {i : Int} (q : P i) : ∃ j, V.int i = V.int j ∧ P j := ⟨i, rfl, q⟩
theorem go_rIxT {p : Addr} {xs : List V} {j : Int} (h : SqT K H p xs) (e : atI xs j = some v) (q : Q v H) : rIxT K (.ref p) (.int j) H Q := ⟨p, xs, j, v, rfl, rfl, h, e, q⟩
theorem go_rIxL {p : Addr} {xs : List V} {j : Int} (h : SqL K H p xs) (e : atI xs j = some v) (q : Q v H) : rIxL K (.ref p) (.int j) H Q := ⟨p, xs, j, v, rfl, rfl, h, e, q⟩
/-- statements -/
theorem go_seq (h : s1 { D with nx := s2 D } σ H) : tSeq s1 s2 D σ H := h
theorem go_cut (Mid : L2.St → Hp → Prop) (h1 : s1 { D with nx := Mid } σ H) (h2 : ∀ σ' H', Mid σ' H' → s2 D σ' H') : Evl.tCut s1 s2 D σ H := ⟨Mid, h1, h2⟩
theorem go_next (q : D.nx σ H) : tNext D σ H := q
theorem go_brk (q : D.bk σ H) : tBreak D σ H := q
theorem go_cont (q : D.ct σ H) : tCont D σ H := q
theorem go_drop (h : te σ H fun _ H1 => D.nx σ H1) : tDrop te D σ H := h
theorem go_ret (h : te σ H D.rt) : tRet te D σ H := h
theorem go_retN (h : D.rt .non H) : tRetN D σ H := h
theorem go_ifS (h : t σ H fun b H1 => if b = true then s1 D σ H1 else s2 D σ H1) : tIfS t s1 s2 D σ H := h
theorem go_set (h : te σ H fun x H1 => D.nx (σ.set i (some x)) H1) : tAsg te (gName i) D σ H := h
theorem go_asg (h : te σ H fun x H1 => g x σ H1 D.nx) : tAsg te g D σ H := h
theorem go_seq_set (h : te σ H fun x H1 => s2 D (σ.set i (some x)) H1) : tSeq (tAsg te (gName i)) s2 D σ H := h
theorem go_seq_asg (h : te σ H fun x H1 => g x σ H1 (s2 D)) : tSeq (tAsg te g) s2 D σ H := h
theorem go_seq_drop (h : te σ H fun _ H1 => s2 D σ H1) : tSeq (tDrop te) s2 D σ H := h
theorem go_seq_if (h : t σ H fun b H1 => if b = true then s1 { D with nx := s2 D } σ H1 else s2 D σ H1) : tSeq (tIfS t s1 tNext) s2 D σ H := h
theorem go_aug {ti : TIp} (hx : σ[i]? = some (some x)) (h : te σ H fun y H1 => ti x y H1 fun z H2 => D.nx (σ.set i (some z)) H2) : tAug i te ti D σ H := ⟨x, hx, h⟩
theorem go_m1 {r : V → List V → Hp → VK → Prop} {a : Str} (h : te σ H fun y H2 => r (.str a) [y] H2 Q) : tM1 r (tC (.str a)) te σ H Q := ⟨⟨a, rfl⟩, h⟩
theorem go_revL (h : te σ H fun x H1 => ∃ a xs, x = .ref a ∧ SqL K H1 a xs ∧ ∀ p, H1 p = none → Q (.ref p) (upd H1 p (.lst xs.reverse))) : tRevL K te σ H Q := h
theorem go_augS {to ti : TE} {tget : V → V → Hp → VK → Prop} {tip : TIp} {tset : TSet} (h : to σ H fun o H1 => ti σ H1 fun i H2 => tget o i H2 fun x H3 => te σ H3 fun y H4 => tip x y H4 fun z H5 => tset o i z H5 fun H6 => D.nx σ H6) : tAugS to ti te tget tip tset D σ H := h
theorem go_ipI {f : Int → Int → Int} {a b : Int} (q : Q (.int (f a b)) H) : ipI f (.int a) (.int b) H Q := ⟨a, b, rfl, rfl, q⟩
theorem go_gName {QS : L2.St → Hp → Prop} (q : QS (σ.set i (some v)) H) : gName i v σ H QS := q
theorem go_gTup {QS : L2.St → Hp → Prop} {a : Addr} {xs : List V} {n : Nat} {t : TGs} (h : SqT K H a xs) (hl : xs.length = n) (q : t xs σ H QS) : gTup K n t (.ref a) σ H QS := ⟨a, xs, rfl, h, hl, q⟩
theorem go_gUnl {QS : L2.St → Hp → Prop} {a : Addr} {xs : List V} {n : Nat} {t : TGs} (h : SqL K H a xs) (hl : xs.length = n) (q : t xs σ H QS) : gUnl K n t (.ref a) σ H QS := ⟨a, xs, rfl, h, hl, q⟩
theorem go_gCons {QS : L2.St → Hp → Prop} {xs : List V} {t : TG} {u : TGs} (q : t v σ H fun σ' H' => u xs σ' H' QS) : gCons t u (v :: xs) σ H QS := ⟨v, xs, rfl, q⟩
theorem go_gNil {QS : L2.St → Hp → Prop} (q : QS σ H) : gNil [] σ H QS := ⟨rfl, q⟩
theorem go_gSub {QS : L2.St → Hp → Prop} {to ti : TE} {t : TSet} (h : to σ H fun o H1 => ti σ H1 fun i H2 => t o i v H2 fun H3 => QS σ H3) : gSub to ti t v σ H QS := h
theorem go_rSetL {QH : Hp → Prop} {p : Addr} {xs : List V} {k : Int} {j : Nat} (h : H p = some (.lst xs)) (e : ixN xs.length k = some j) (q : QH (upd H p (.lst (xs.set j v)))) : rSetL (.ref p) (.int k) v H QH := ⟨p, xs, k, j, rfl, rfl, h, e, q⟩
theorem go_par {j k : Nat} (h : tr σ H fun vs H1 => ∃ v w, vs = [v, w] ∧ D.nx ((σ.set j (some v)).set k (some w)) H1) : tPar j k tr D σ H := h
theorem go_par3 {j k l : Nat} (h : tr σ H fun vs H1 => ∃ u v w, vs = [u, v, w] ∧ D.nx (((σ.set j (some u)).set k (some v)).set l (some w)) H1) : tPar3 j k l tr D σ H := h
theorem go_two {P : V → V → Prop} {a b : V} (q : P a b) : ∃ v w, [a, b] = [v, w] ∧ P v w := ⟨a, b, rfl, q⟩
theorem go_three {P : V → V → V → Prop} {a b c : V} (q : P a b c) : ∃ u v w, [a, b, c] = [u, v, w] ∧ P u v w := ⟨a, b, c, rfl, q⟩
theorem go_ite {p : Prop} [Decidable p] {A B : Prop} (h1 : p → A) (h2 : ¬ p → B) : if decide p = true then A else B := by
  by_cases h : p
  · rw [if_pos (decide_eq_true h)]; exact h1 h
  · rw [if_neg (by rw [decide_eq_false h]; exact Bool.false_ne_true)]; exact h2 h
theorem go_iteN {p : Prop} [Decidable p] {A B : Prop} (h1 : ¬ p → A) (h2 : p → B) : if (!decide p) = true then A else B := by
  by_cases h : p
  · rw [if_neg (by rw [decide_eq_true h]; exact Bool.false_ne_true)]; exact h2 h
  · rw [if_pos (by rw [decide_eq_false h]; rfl)]; exact h1 h
theorem go_iteB {b : Bool} {A B : Prop} (h1 : b = true → A) (h2 : b = false → B) : if b = true then A else B := by
  cases b
  · exact h2 rfl
  · exact h1 rfl
theorem go_iteT {A B : Prop} (h : A) : if true = true then A else B := h
theorem go_iteF {A B : Prop} (h : B) : if false = true then A else B := h
theorem go_iteNT {A B : Prop} (h : B) : if (!true) = true then A else B := h
theorem go_iteNF {A B : Prop} (h : A) : if (!false) = true then A else B := h
theorem go_iteYes {b : Bool} {A B : Prop} (e : b = true) (h : A) : if b = true then A else B := by rw [e]; exact h
theorem go_iteNo {b : Bool} {A B : Prop} (e : b = false) (h : B) : if b = true then A else B := by rw [e]; exact h
/-- xs.append(e), xs.pop() -/
def AppK (l : Addr) (Q : VK) : VK := fun y H2 => rAppend (.ref l) [y] H2 Q
theorem appk {l : Addr} {xs : List V} (h : H l = some (.lst xs)) (hl : xs.length ≤ 50000) (q : Q .non (upd H l (.lst (xs ++ [y])))) : AppK l Q y H := ⟨l, xs, y, rfl, rfl, h, Nat.lt_of_le_of_lt hl (by decide), q⟩
theorem go_app {l : Addr} {xs0 : List V} (hv : σ[i]? = some (some (.ref l))) (h0 : H l = some (.lst xs0)) (h : te σ H (AppK l Q)) : tBM K "list" rAppend (tVar i) (tCons te tNil) σ H Q := ⟨_, hv, .inl ⟨rfl, xs0, SqL.of h0⟩, h⟩
theorem go_pop {l : Addr} {xs : List V} (hv : σ[i]? = some (some (.ref l))) (h : H l = some (.lst (xs ++ [y]))) (q : Q y (upd H l (.lst xs))) : tBM0 K "list" rPop (tVar i) σ H Q := ⟨_, hv, .inl ⟨rfl, _, SqL.of h⟩, l, _, y, rfl, rfl, h, by
  rw [List.length_append, List.length_singleton, Nat.add_sub_cancel, List.getElem?_append_right (Nat.le_refl _), Nat.sub_self]
  rfl, by rw [List.dropLast_concat]; exact q⟩
/-! ### loops -/
theorem go_iList {tl : TE} (h : tl σ H fun x H1 => ∃ a, x = .ref a ∧ (∃ xs, SqL K H1 a xs) ∧ R (Itl K a) H1) : iList K tl σ H R := h
theorem go_iTup {tl : TE} (h : tl σ H fun x H1 => ∃ a, x = .ref a ∧ (∃ xs, SqT K H1 a xs) ∧ R (Itt K a) H1) : iTup K tl σ H R := h
theorem go_isL {a : Addr} {xs : List V} (h : SqL K H a xs) (q : R (Itl K a) H) : ∃ b, V.ref a = .ref b ∧ (∃ xs, SqL K H b xs) ∧ R (Itl K b) H := ⟨a, rfl, ⟨xs, h⟩, q⟩
theorem go_isT {a : Addr} {xs : List V} (h : SqT K H a xs) (q : R (Itt K a) H) : ∃ b, V.ref a = .ref b ∧ (∃ xs, SqT K H b xs) ∧ R (Itt K b) H := ⟨a, rfl, ⟨xs, h⟩, q⟩
theorem go_iRng1 (h : tr σ H fun vs H1 => ∃ j : Int, vs = [.int j] ∧ -(2 ^ 62) ≤ j ∧ j < 2 ^ 62 ∧ R (Itr 0 j.toNat) H1) : iRng1 tr σ H R := h
theorem go_iRng2 (h : tr σ H fun vs H1 => ∃ i j : Int, vs = [.int i, .int j] ∧ (-(2 ^ 62) ≤ i ∧ i < 2 ^ 62 ∧ -(2 ^ 62) ≤ j ∧ j < 2 ^ 62) ∧ R (Itr i (j - i).toNat) H1) : iRng2 tr σ H R := h
theorem go_isR1 {j : Int} (h0 : -(2 ^ 62) ≤ j) (h1 : j < 2 ^ 62) (q : R (Itr 0 j.toNat) H) : ∃ k : Int, [V.int j] = [.int k] ∧ -(2 ^ 62) ≤ k ∧ k < 2 ^ 62 ∧ R (Itr 0 k.toNat) H := ⟨j, rfl, h0, h1, q⟩
theorem go_while {c : TT} {tb : TS} (W : Nat → L2.St → Hp → Prop) (m0 : Nat) (h0 : W m0 σ H)
    (hs : ∀ m σ H, W m σ H → c σ H fun b H1 => if b = true then (∃ N : L2.St → Hp → Prop, (∀ σ' H', N σ' H' → ∃ m', m' < m ∧ W m' σ' H') ∧ tb { D with nx := N, ct := N, bk := D.nx } σ H1) else D.nx σ H1) : tWhile c tb D σ H := ⟨W, ⟨m0, h0⟩, hs⟩
end
/-! ### heaps -/
abbrev Ext := Evl.Ex
theorem mem_new {H : Hp} {p a : Addr} {o u : HO} (np : H p = none) (h : H a = some o) : upd H p u a = some o := by rw [upd_ne (ne_of_none h np)]; exact h
theorem mem_ext {H H' : Hp} {a : Addr} {o : HO} (e : Ext H H') (h : H a = some o) : H' a = some o := e a o h
theorem none_back {H : Hp} {p q : Addr} {o : HO} (h : upd H p o q = none) : H q = none ∧ q ≠ p := by
  by_cases e : q = p
  · subst e; rw [upd_same] at h; cases h
  · rw [upd_ne e] at h; exact ⟨h, e⟩
theorem ext_new {H H' : Hp} {p : Addr} {o : HO} (e : Ext H H') (np : H' p = none) : Ext H (upd H' p o) := e.trans (Evl.Ex.new np)
end At

namespace At
open L2 PyProof.Rows PySem.Spec PySem
/-- min(t), max(t) of one tuple of whole numbers, not empty: what a fold tells -/
def rLeast (K : PySem.W.Frag) (f : Int → Int → Int) : List V → Hp → VK → Prop := fun vs H Q => ∃ (a : Addr) (n : Int) (ns : List Int), vs = [.ref a] ∧ SqT K H a (.int n :: ns.map .int) ∧ Q (.int (ns.foldl f n)) H
theorem reads_nums {h : Heap} : ∀ {ns : List Int} {us : List Value}, Vals (ns.map V.int) us → ReadsAll h us (ns.map .int) []
  | [], _, r => by cases r; exact .nil
  | _ :: _, _, .cons ⟨_, e⟩ r => by
    subst e
    exact .cons (as := []) (bs := []) (.int _ _) (reads_nums r)
theorem flat_nums : ∀ ns : List Int, PyData.depthAll (ns.map .int) = 0
  | [] => rfl
  | n :: ns => by
    show Nat.max (PyData.depth (.int n)) (PyData.depthAll (ns.map .int)) = 0
    rw [flat_nums ns]
    rfl
theorem alike_nums (ns : List Int) : PySem.W.AlikeAll (ns.map .int) := by
  refine ⟨fun x hx y hy => ?_, fun x hx => ?_⟩
  · obtain ⟨i, _, rfl⟩ := List.mem_map.mp hx
    obtain ⟨j, _, rfl⟩ := List.mem_map.mp hy
    rfl
  · obtain ⟨i, _, rfl⟩ := List.mem_map.mp hx
    exact nofun
theorem int_of_reads {h : Heap} {v : Value} {i : Int} {as : List Addr} (r : Reads h v (.int i) as) : RelV (.int i) v := by
  cases r
  exact ⟨_, rfl⟩
section
variable {X : Cx}
theorem cr_leastT {k : Nat} (hc : X.calm = true) (hr : Room k X.A) : CallR X (.builtin "min") (rLeast X.K min) := by
  intro pins s σ H vs us Q I r ⟨a, n, ns, e, hs, q⟩
  subst e
  obtain ⟨its, rv, p, _⟩ := I.tuple hs
  rw [Vals.ref1 r]
  refine PySem.W.min_tuple_data (x := .int n) (xs := ns.map .int) (as := []) (I.ok.hd hc) p (reads_nums (ns := n :: ns) rv) (alike_nums (n :: ns)) ?_ fun _ v h' tk bs _ rd hk => ?_
  · rw [show PyData.int n :: ns.map PyData.int = (n :: ns).map .int from rfl, flat_nums]
    have := hr.un
    omega
  · rw [PySem.W.minD_ints] at rd
    exact ⟨_, H, I.kept hk, int_of_reads rd, q⟩
theorem cr_mostT {k : Nat} (hc : X.calm = true) (hr : Room k X.A) : CallR X (.builtin "max") (rLeast X.K max) := by
  intro pins s σ H vs us Q I r ⟨a, n, ns, e, hs, q⟩
  subst e
  obtain ⟨its, rv, p, _⟩ := I.tuple hs
  rw [Vals.ref1 r]
  refine PySem.W.max_tuple_data (x := .int n) (xs := ns.map .int) (as := []) (I.ok.hd hc) p (reads_nums (ns := n :: ns) rv) (alike_nums (n :: ns)) ?_ fun _ v h' tk bs _ rd hk => ?_
  · rw [show PyData.int n :: ns.map PyData.int = (n :: ns).map .int from rfl, flat_nums]
    have := hr.un
    omega
  · rw [PySem.W.maxD_ints] at rd
    exact ⟨_, H, I.kept hk, int_of_reads rd, q⟩
end
end At

namespace At
open L2 PyProof.Rows PySem.Spec PySem
/-! ### for i, x in enumerate(t), t a tuple -/
abbrev itOb (a : Addr) : Obj := { cls := .type "tuple_iterator", data := .fields #[.ref a, .int 0 0] }
abbrev enOb (i : Addr) : Obj := { cls := .type "enumerate", data := .fields #[.none, .bool false, .ref i, rawInt 0, .none, .none] }
abbrev enHp (h : Heap) (a : Addr) : Heap := (h.push (itOb a)).push (enOb h.objs.size)
theorem enum_newT (a : Addr) (vs : Array Value) : Meets (Builtin.«enumerate.__new__» ⟨[.type "enumerate", .ref a], []⟩)
    fun _ R s => s.heap.IsTuple a vs ∧ R (.ok (.ret (.ref (s.heap.push (itOb a)).objs.size))) { s with heap := enHp s.heap a } := by
  refine .of_wp fun prog w A R s hs => ?_
  obtain ⟨ht, hR⟩ := hs
  obtain ⟨hp, gs, dr, tk, os⟩ := s
  have same := sub_enumerate
  have goes : ∀ {B : Around} {E : Value → Shared → Prop} {Q : Value → Shared → Prop}, Q (.ref hp.objs.size) ⟨hp.push (itOb a), gs, dr, tk, os⟩ → wpAny (model prog w) B (pyIter (.ref a)) Q E ⟨hp, gs, dr, tk, os⟩ := fun q => wpAny_pyIter_tuple ht q
  wp_walk using goes
  refine wpAny_stack_any fun _ => wpAny_pure ?_
  split
  all_goals first
    | (wp_walk using goes; exact ⟨_, rfl, hR⟩)
    | (rename_i c _ _ _ _ _
       cases (c == Value.type "enumerate") <;> (wp_walk using goes; exact ⟨_, rfl, hR⟩))
theorem call_enumT {prog : Program} {w : World} {A : Around} {E : Value → Shared → Prop} {s : Shared} {a : Addr} {vs : Array Value} {Q : Value → Shared → Prop} (ht : s.heap.IsTuple a vs)
    (h : Q (.ref (s.heap.objs.size + 1)) { s with heap := enHp s.heap a }) : wpAny (model prog w) A (call (.type "enumerate") [.ref a]) Q E s := by
  have sz : (s.heap.push (itOb a)).objs.size = s.heap.objs.size + 1 := Heap.size_push ..
  have at_ : (enHp s.heap a).get? (s.heap.objs.size + 1) = some (enOb s.heap.objs.size) := by
    rw [← sz]
    (exact Heap.get?_push_size _ rfl)
  refine callType_new F.called_enumerate (by decide) (F.typeCall_enumerate_1 _) (F.newCall_enumerate_1 _) (fun _ => F.args_object_init_2 _ _) F.entry_enumerate_new (enum_newT a vs) ⟨ht, ?_⟩
  rw [sz]
  exact ⟨⟨_, at_, rfl⟩, h⟩
/-- the tuple at a, each item with its place in a new pair -/
def Itet (K : PySem.W.Frag) (a : Addr) (xs : List V) : It where
  go i H := SqT K H a xs ∧ i < xs.length
  yld i H v H' := ∃ T x, v = .ref T ∧ H T = none ∧ xs[i]? = some x ∧ H' = upd H T (.tup [.int (i : Nat), x])
  stop i H := SqT K H a xs ∧ i = xs.length
structure Ent (e it a : Addr) (i : Nat) (h : Heap) : Prop where
  en : ∃ old, IsEnum h e it (0 + (i : Int)) old
  at_ : h.IsTupleIter it a i
  ne1 : e ≠ it
  ne2 : a ≠ it
  ne3 : e ≠ a
theorem turn_enumT {P : Program} {w : World} {K : PySem.W.Frag} {elts : List Expr} {kk : Nat} {tpos : Pos} (a e it : Addr) (xs : List V) : Turn P w K (.Tuple elts kk tpos) (Itet K a xs) [e, it] e (Ent e it a) := by
  have two : ∀ {b : Addr} {p : Addr → Prop}, b ∈ [e, it] → p e → p it → p b := fun hb h1 h2 => by
    (rcases List.mem_cons.mp hb with z | z)
    · rw [z]; exact h1
    · rw [List.mem_singleton.mp z]; exact h2
  have E : ∀ {X : Cx} {s : Shared} {its : Array Value} {i : Nat}, X.calm = true → X.A.handled = none → Ent e it a i s.heap →
      GoesN X.prog X.w X.A (.Tuple elts kk tpos) e [e, it, a] [e, it] its.size (fun j h0 v h => ∃ T t x, v = .ref T ∧ h0.objs.size ≤ T ∧ its[j]? = some x ∧ h.IsTuple T #[.int (0 + (j : Int)) t, x])
        (fun j h => (∃ old, IsEnum h e it (0 + (j : Int)) old) ∧ h.IsTupleIter it a j ∧ h.IsTuple a its) := fun {X} {_} {_} {_} hc hh n =>
    GoesN.enumFrom 0 (Draws.tuple (A := X.A.in1) (show X.A.in1.handled = Option.none from hh) it a n.ne2 _) e n.ne1 (fun z => by
      (rcases List.mem_cons.mp z with z | z)
      · exact n.ne1 z
      · exact n.ne3 (List.mem_singleton.mp z)) List.mem_cons_self
  constructor
  case mem => exact List.mem_cons_self
  case obj =>
    intro i h n b hb
    obtain ⟨old, he⟩ := n.en
    obtain ⟨o, ho, _, hd⟩ := n.at_
    exact two (p := fun b => ∃ o, h.get? b = some o ∧ ∀ v, o.data ≠ .cell v) hb ⟨_, he, nofun⟩ ⟨o, ho, fun v q => by rw [hd] at q; cases q⟩
  case keep =>
    intro i h h' n k
    obtain ⟨old, he⟩ := n.en
    exact { n with en := ⟨old, k e List.mem_cons_self _ he⟩, at_ := n.at_.at fun o q => k it (List.mem_cons_of_mem _ List.mem_cons_self) o q }
  case item =>
    intro X hP hw hK hc i pins s σ H E' I hf n hg
    subst hP hw hK
    obtain ⟨hq, hi⟩ := hg
    obtain ⟨its, rv, p, _⟩ := I.tuple hq
    have W := E (its := its.toArray) hc (I.ok.hd hc) n
    refine W.goes i s _ _ (by rw [List.size_toArray, ← rv.length]; exact hi) ⟨n.en, n.at_, p⟩ fun v h' tk y st k tle => ?_
    obtain ⟨T, t, u, rfl, new, hu, hT⟩ := y
    obtain ⟨x, hx⟩ : ∃ x, xs[i]? = some x := ⟨_, List.getElem?_eq_getElem hi⟩
    obtain ⟨u', hu', ru⟩ := rv.get hx
    have e1 : u' = u := by
      rw [List.getElem?_toArray, hu'] at hu
      exact Option.some.inj hu
    subst e1
    have lt : ∀ b ∈ [e, it], b < T := fun b hb => by
      obtain ⟨old, he⟩ := n.en
      obtain ⟨o, ho, _⟩ := n.at_
      exact Nat.lt_of_lt_of_le (two (p := fun b => b < s.heap.objs.size) hb (Heap.lt_size he) (Heap.lt_size ho)) new
    rw [Int.zero_add] at hT
    refine ⟨.ref T, upd H T (.tup [.int (i : Nat), x]), I.turnedNew k hf new ⟨by show 2 ≤ sizeLine; decide, _, .cons ⟨_, rfl⟩ (.cons ru .nil), hT⟩, rfl, ⟨T, x, rfl, I.hok.fresh new, hx, rfl⟩, { n with en := st.1, at_ := st.2.1 }, fun b hb => ?_⟩
    rw [upd_ne (Nat.ne_of_lt (lt b hb))]
    exact (hf b hb).1
  case done =>
    intro X hP hw hK hc i pins s σ H E' I hf n hg
    subst hP hw hK
    obtain ⟨hq, hi⟩ := hg
    obtain ⟨its, rv, p, _⟩ := I.tuple hq
    have e1 : its.toArray.size = i := by rw [List.size_toArray, ← rv.length, hi]
    have W := E (its := its.toArray) hc (I.ok.hd hc) n
    rw [e1] at W
    exact W.stops s _ _ ⟨n.en, n.at_, p⟩ fun h' tk k _ => I.turnedL k hf
  case self =>
    intro A i s Q E' n h
    obtain ⟨old, he⟩ := n.en
    exact wpAny_pyIter_enum he h
def iEnumT (K : PySem.W.Frag) (ta : TA) : TI := fun σ H R => ta σ H fun vs H1 => ∃ a xs, vs = [.ref a] ∧ SqT K H1 a xs ∧ R (Itet K a xs) H1
theorem pi_enumT {X : Cx} {e : Expr} {ta : TA} {p pos tpos : Pos} {elts : List Expr} {kk : Nat} (hg : Gl X "enumerate") (hm : X.mg "enumerate" = none) (ha : PA X [e] ta) (hs : starEach [e] X.env = [(false, eval e X.env)] := by rfl) :
    PI X (.Tuple elts kk tpos) (.Call (.Name "enumerate" p) [e] [] pos) (iEnumT X.K ta) := by
  constructor
  intro pins s σ H R I h
  refine Call_ (ld_blt I hg hm boot_enumerate (callWith_type1 (thn (ha.run pos pins s σ H _ I h) fun us s1 q1 => ?_) hs rfl))
  obtain ⟨vs, H1, I1, r1, a, xs, rfl, hq, q⟩ := q1
  rw [Vals.ref1 r1]
  obtain ⟨its, rv, p', _⟩ := I1.tuple hq
  have z : (s1.heap.push (itOb a)).objs.size = s1.heap.objs.size + 1 := Heap.size_push ..
  have la : a < s1.heap.objs.size := by
    obtain ⟨_, k, _⟩ := p'
    exact Heap.lt_size k
  have kp : ∀ b o, s1.heap.get? b = some o → (enHp s1.heap a).get? b = some o := fun b o k => Heap.get?_push_of_some _ (Heap.get?_push_of_some _ k)
  have he : (enHp s1.heap a).get? (s1.heap.objs.size + 1) = some (enOb s1.heap.objs.size) := by
    rw [← z]
    (exact Heap.get?_push_size _ rfl)
  have hi : (enHp s1.heap a).get? s1.heap.objs.size = some (itOb a) := Heap.get?_push_of_some _ (Heap.get?_push_size _ rfl)
  refine call_enumT p' (wpAny_pyIter_enum (it := s1.heap.objs.size) (i := 0) (old := .none) he ?_)
  refine ⟨s1.heap.objs.size + 1, [s1.heap.objs.size + 1, s1.heap.objs.size], _, _, H1, rfl, I1.kept (t' := s1.toks) kp, turn_enumT a (s1.heap.objs.size + 1) s1.heap.objs.size xs, ⟨⟨.none, he⟩, ⟨_, hi, rfl, rfl⟩, Nat.succ_ne_self _, Nat.ne_of_lt la, fun k => ?_⟩, fun b hb => ?_, q⟩
  · rw [← k] at la
    exact absurd (Nat.lt_of_succ_lt la) (Nat.lt_irrefl _)
  · have le : s1.heap.objs.size ≤ b := by
      rcases List.mem_cons.mp hb with k | k
      · rw [k]; exact Nat.le_succ _
      · rw [List.mem_singleton.mp k]; exact Nat.le_refl _
    exact I1.fpOk le (I1.hok.fresh le)
end At

namespace At
open L2 PyProof.Rows PySem.Spec PySem
/-! ### x == y and x != y, x an object of the own class at C: its own __eq__ at g, no own __ne__ -/
structure EqAt_ (K : PySem.W.Frag) (C g : Addr) : Prop where
  eq : PySem.W.findIn K (.ref C) "__eq__" = some (some (.ref g))
  isf : PySem.W.isFn K (.ref g) = true
  ne : PySem.W.findIn K (.ref C) "__ne__" = some (some (.builtin "object.__ne__"))
  ob : PySem.W.mroIn K C (.type "object") = some true
/-- the answer is xor'ed with b: false for ==, true for != -/
def rOwnEq (K : PySem.W.Frag) (C : Addr) (sp : Sp) (E : XK) (b : Bool) : R2 := fun x y H Q =>
  ∃ a dx fs t, x = .ref a ∧ H a = some (.ins C dx fs) ∧ TyX K H y t ∧ PySem.W.notFirst K C t = true ∧ sp [x, y] H (fun v H' => ∃ c, v = .bl c ∧ Q (.bl (b ^^ c)) H') E
section
variable {X : Cx} {CX : CXT} {C g : Addr} {n : Nat} {sp : Sp} {E : XK}
theorem own_call {pins : List (Addr × Obj)} {σ : L2.St} {H : Hp} {s : Shared} {us : List Value} {vs : List V} {Q : VK} (F : FnR X.prog X.w X.K X.mg X.base CX n g sp) {B : Around} (hr : Room n B) (hx : Passes CX X E) (I : Inv X pins σ H s)
    (e0 : Env0 X.prog X.w X.K X.mg X.base B X.stack s H) (r : Vals vs us) (h : sp vs H Q E) : wpAny (model X.prog X.w) B (call (.ref g) us) (EP X pins σ Q) X.xe s := by
  refine wpAny_call (codeAny_mono (F B X.stack s H us vs Q E hr e0 r h) fun z s' hz => ?_)
  match z, hz with
  | .error e, hz => exact hx pins σ H s e s' I hz
  | .ok (.ret _), hz => exact I.after hz
theorem ne_call {prog : Program} {w : World} {A : Around} {E : Value → Shared → Prop} {s : Shared} {K : PySem.W.Frag} {a : Addr} {u : Value} {ox : Obj} {od : Option Obj} {Q : Value → Shared → Prop} (D : EqAt_ K C g) (k : K.In s.heap) (J : PySem.W.InstAt s.heap a ox C od) (hu : A.units + 1 < cLine)
    (h : wpAny (model prog w) A.in1 (call (.ref g) [.ref a, u]) (fun v s' => ∃ c, v = .bool c ∧ Q (.bool (!c)) s') E s) : wpAny (model prog w) A (call (.builtin "object.__ne__") [.ref a, u]) Q E s := by
  have run : wpAny (model prog w) A.in1 (Builtin.«object.__ne__» ⟨[.ref a, u], []⟩) (fun fin s' => ∃ v, fin = .done (.ret v) ∧ Q v s') E s := by
    (unfold Builtin.«object.__ne__»)
    refine wpAny_bind (wpAny_of_eq rfl ?_)
    (refine wpAny_bind (wpAny_cRoomFor hu ?_))
    refine wpAny_bind (PySem.W.ifBound_K k J D.eq D.isf (wpAny_mono h (fun v s' hv => ?_) fun _ _ e => e))
    obtain ⟨c, rfl, q⟩ := hv
    refine wpAny_bind (wpAny_truthy_bool ?_)
    exact wpAny_pure ⟨_, rfl, q⟩
  exact wpAny_call (codeAny_call_builtin F.cmp_object.ne.plain F.cmpEntry_ne (PySem.W.check_slot F.cmpKind_ne F.cmpSplit_ne (J.type.andThen (PySem.W.looks_mroIn k D.ob)) (F.cmpArgs_ne _ _) (wpAny_mono run (fun fin s' z => by
    obtain ⟨v, rfl, q⟩ := z
    exact q) fun _ _ z => z)))
theorem ne_rich {prog : Program} {w : World} {A : Around} {E : Value → Shared → Prop} {s : Shared} {K : PySem.W.Frag} {a : Addr} {u t : Value} {ox : Obj} {od : Option Obj} {Q : Value → Shared → Prop} (D : EqAt_ K C g) (k : K.In s.heap) (J : PySem.W.InstAt s.heap a ox C od) (hu : A.units + 1 < cLine)
    (ty : PySem.W.Looks (model prog w) s.heap (typeOf u) t) (nf : PySem.W.notFirst K C t = true)
    (h : wpAny (model prog w) A.in1 (call (.ref g) [.ref a, u]) (fun v s' => ∃ c, v = .bool c ∧ Q (.bool (!c)) s') E s) : wpAny (model prog w) A (richCompare .NotEq (.ref a) u) Q E s := by
  have mine : wpAny (model prog w) A (tryCompare (.ref a) "__ne__" u) (fun r s' => ∃ c, r = some (.bool c) ∧ Q (.bool c) s') E s := by
    unfold tryCompare callSpecialIfBound? bindSpecialIfBound?
    have done : wpAny (model prog w) A (call (.builtin "object.__ne__") ([.ref a] ++ [u])) (fun v s' => ∃ c, v = .bool c ∧ Q (.bool c) s') E s := ne_call D k J hu (wpAny_mono h (fun v s' hv => by
      obtain ⟨c, e, q⟩ := hv
      exact ⟨c, e, _, rfl, q⟩) fun _ _ z => z)
    have next : wpAny (model prog w) A (do
        let r ← call (.builtin "object.__ne__") ([.ref a] ++ [u])
        pure (some r)) (fun r s' => ∃ c, r = some (.bool c) ∧ Q (.bool c) s') E s := wpAny_bind (wpAny_mono done (fun v s' hv => by
      obtain ⟨c, rfl, q⟩ := hv
      exact wpAny_pure ⟨c, rfl, q⟩) fun _ _ z => z)
    refine wpAny_bind (wpAny_mono (Q := fun r s' => ∃ c, r = some (Value.bool c) ∧ Q (.bool c) s') (wpAny_holding (wpAny_bind (wpAny_bind (wpAny_bind (J.type.here ((PySem.W.looks_findIn k D.ne).here ?one)))))) (fun r s' z => ?two) fun _ _ z => z)
    case two =>
      obtain ⟨c, rfl, q⟩ := z
      exact wpAny_pure ⟨c, rfl, q⟩
    (refine wpAny_bind (wpAny_askSetting (wpAny_ite ?_)))
    split
    · exact wpAny_bind (wpAny_of_eq (F.cmp_object.ne.bind _) (wpAny_pure next))
    · exact wpAny_tryCatch (wpAny_bind (wpAny_of_eq (F.cmp_object.ne.bind _) (wpAny_pure next)))
  unfold richCompare
  simp only [oneThing_ref]
  refine wpAny_holding (wpAny_bind (wpAny_cRoomFor (by omega) ?_))
  refine wpAny_bind (J.type.here (wpAny_bind (ty.here ?_)))
  have told : wpAny (model prog w) A (tryCompare (.ref a) "__ne__" u) (fun r s' => ∃ c, r = some (.bool c) ∧ Q (.bool c) s') E s := mine
  split
  · rename_i ne
    have sub : PySem.W.subIn K t (.ref C) = some false := by
      rcases Bool.or_eq_true_iff.mp nf with e | e
      · exact absurd (beq_iff_eq.mp e) (fun z => by rw [z] at ne; simp at ne)
      · exact beq_iff_eq.mp e
    refine wpAny_bind ((PySem.W.looks_subIn k sub).here ?_)
    (simp only [Bool.false_eq_true, if_false])
    refine wpAny_bind (wpAny_mono told (fun r s' z => ?_) fun _ _ z => z)
    obtain ⟨c, rfl, q⟩ := z
    exact wpAny_pure q
  · (refine wpAny_bind (wpAny_pure ?_))
    (simp only [Bool.false_eq_true, if_false])
    refine wpAny_bind (wpAny_mono told (fun r s' z => ?_) fun _ _ z => z)
    obtain ⟨c, rfl, q⟩ := z
    exact wpAny_pure q
theorem op_eqO (D : EqAt_ X.K C g) (F : FnR X.prog X.w X.K X.mg X.base CX n g sp) (hr : Room (n + 1) X.A) (hx : Passes CX X E) : OpR X (compareOp .Eq) (rOwnEq X.K C sp E false) := by
  (intro pins s σ H x y v u Q I rx ry h)
  obtain ⟨a, dx, fs, t, rfl, ha, ty, nf, q⟩ := h
  (cases (show v = Value.ref a from rx))
  obtain ⟨_, J, _⟩ := ins_get I.hok ha
  obtain ⟨od, J, _⟩ := J.look
  obtain ⟨P, kx, hP, _⟩ := kit_of I ry ty
  obtain ⟨m, fr⟩ := I.fr
  refine PySem.W.cmp_K (op := .Eq) hr.units0 fr I.ok.mod.kin J (kx.ty _ _ I.kIn hP) nf D.eq D.isf (wpAny_mono (own_call (vs := [V.ref a, y]) F (hr.mono (Nat.le_succ n)) hx I I.env0 (.cons rfl (.cons ry .nil)) q) (fun w s' z => ?_) fun _ _ z => z)
  obtain ⟨z, H', I', rz, c, rfl, q'⟩ := z
  cases (show w = Value.bool c from rz)
  exact ⟨.bl c, H', I', rfl, by rw [Bool.false_xor] at q'; exact q'⟩
theorem op_neO (D : EqAt_ X.K C g) (F : FnR X.prog X.w X.K X.mg X.base CX n g sp) (hr : Room (n + 1) X.A) (hx : Passes CX X E) : OpR X (compareOp .NotEq) (rOwnEq X.K C sp E true) := by
  (intro pins s σ H x y v u Q I rx ry h)
  obtain ⟨a, dx, fs, t, rfl, ha, ty, nf, q⟩ := h
  (cases (show v = Value.ref a from rx))
  obtain ⟨_, J, _⟩ := ins_get I.hok ha
  obtain ⟨od, J, _⟩ := J.look
  obtain ⟨P, kx, hP, _⟩ := kit_of I ry ty
  refine ne_rich D I.kIn J (by have := hr.un; omega) (kx.ty _ _ I.kIn hP) nf (wpAny_mono (own_call (vs := [V.ref a, y]) F hr.in1 hx I I.env0.in1 (.cons rfl (.cons ry .nil)) q) (fun w s' z => ?_) fun _ _ z => z)
  obtain ⟨z, H', I', rz, c, rfl, q'⟩ := z
  cases (show w = Value.bool c from rz)
  exact ⟨c, rfl, .bl (!c), H', I', rfl, by rw [Bool.true_xor] at q'; exact q'⟩
end
end At

namespace At
open L2 PyProof.Rows PySem.Spec PySem
/-! ### more steps of a reading -/
section
variable {K : PySem.W.Frag} {σ : L2.St} {H : Hp} {D : Ends} {Q : VK} {ta te : TE} {tr tk : TA} {R : It → Hp → Prop} {sp : Sp} {E : XK} {C : Addr}
theorem go_fld {f : Str} (h : ta σ H fun x H1 => ∃ a C dx fs v, x = .ref a ∧ H1 a = some (.ins C dx fs) ∧ Cls K C ∧ NoAttr K C f ∧ fs.lookup f = some v ∧ Q v H1) : tFld K ta f σ H Q := h
theorem go_prop (h : ta σ H fun x H1 => ∃ a dx fs, x = .ref a ∧ H1 a = some (.ins C dx fs) ∧ sp [.ref a] H1 Q E) : tProp C sp [] E ta σ H Q := h
theorem go_sfld {tv : TE} {f : Str} (h : tv σ H fun y H1 => ta σ H1 fun x H2 => ∃ a C dx fs, x = .ref a ∧ H2 a = some (.ins C dx fs) ∧ Cls K C ∧ NoAttr K C f ∧ fs.length < 1000 ∧ D.nx σ (upd H2 a (.ins C dx (putF f y fs)))) : sFld K ta tv f D σ H := h
theorem go_iStr {tl : TE} (h : tl σ H fun v H1 => ∃ x, v = .str x ∧ R (Its x) H1) : iStr tl σ H R := h
theorem go_isS {x : Str} (q : R (Its x) H) : ∃ y, V.str x = .str y ∧ R (Its y) H := ⟨x, rfl, q⟩
theorem go_iEnT (h : tr σ H fun vs H1 => ∃ a xs, vs = [.ref a] ∧ SqT K H1 a xs ∧ R (Itet K a xs) H1) : iEnumT K tr σ H R := h
theorem go_isET {a : Addr} {xs : List V} (h : SqT K H a xs) (q : R (Itet K a xs) H) : ∃ b ys, [V.ref a] = [.ref b] ∧ SqT K H b ys ∧ R (Itet K b ys) H := ⟨a, xs, rfl, h, q⟩
/-- C(*xs) and C(e, *xs): a new instance -/
theorem go_makeR (h : tr σ H fun vs H1 => ∀ x dx, H1 x = none → H1 dx = none → dx ≠ x → sp (.ref x :: vs) (upd (upd H1 dx (.own x)) x (.ins C dx [])) (fun v H2 => v = .non ∧ Q (.ref x) H2) E) : StX.tMakeR C sp E tr σ H Q := h
theorem go_star {QA : List V → Hp → Prop} (h : te σ H fun x H1 => ∃ p xs, x = V.ref p ∧ (SqT K H1 p xs ∨ SqL K H1 p xs) ∧ tr σ H1 fun ys H2 => QA (xs ++ ys) H2) : StX.tStar K te tr σ H QA := h
theorem go_starT {p : Addr} {xs : List V} {P : List V → Prop} (h : SqT K H p xs) (q : P xs) : ∃ p' ys, V.ref p = V.ref p' ∧ (SqT K H p' ys ∨ SqL K H p' ys) ∧ P ys := ⟨p, xs, rfl, .inl h, q⟩
/-- C(k = v, ..) -/
theorem go_makeK {n m : Nat} {gV : List V → List V → List V} (h : tr σ H fun vs H1 => tk σ H1 fun zs H2 => vs.length = n ∧ zs.length = m ∧ ∀ x dx, H2 x = none → H2 dx = none → dx ≠ x → sp (gV (.ref x :: vs) zs) (upd (upd H2 dx (.own x)) x (.ins C dx [])) (fun v H3 => v = .non ∧ Q (.ref x) H3) E) : tMakeK C n m sp gV E tr tk σ H Q := h
/-- min, max of a tuple of whole numbers -/
theorem go_leastT {f : Int → Int → Int} {a : Addr} {n : Int} {ns : List Int} (h : SqT K H a (.int n :: ns.map .int)) (q : Q (.int (ns.foldl f n)) H) : rLeast K f [.ref a] H Q := ⟨a, n, ns, rfl, h, q⟩
/-- == and != of an instance -/
theorem go_ownEq {b : Bool} {a dx : Addr} {fs : List (Str × V)} {y : V} {t : Value} (h : H a = some (.ins C dx fs)) (ty : TyX K H y t) (nf : PySem.W.notFirst K C t = true) (q : sp [.ref a, y] H (fun v H' => ∃ c, v = .bl c ∧ Q (.bl (b ^^ c)) H') E) : rOwnEq K C sp E b (.ref a) y H Q := ⟨a, dx, fs, t, rfl, h, ty, nf, q⟩
end
/-! ### a list read where it is changed at once: xs[k] op= e -/
def rGetL (K : PySem.W.Frag) : V → V → Hp → VK → Prop := fun x y H Q => ∃ p xs k v, x = .ref p ∧ y = .int k ∧ 0 ≤ k ∧ k < 2 ^ 63 ∧ SqL K H p xs ∧ xs[k.toNat]? = some v ∧ Q v H
theorem get_list {X : Cx} : PGet X (rGetL X.K) := by
  intro pins s σ H o i ov iv Q I ro ri ⟨p, xs, k, v, eo, ei, h0, h1, hq, hv, q⟩
  subst eo ei
  obtain ⟨t, rfl⟩ := (show ∃ t, iv = Value.int k t from ri)
  cases (show ov = Value.ref p from ro)
  obtain ⟨its, rv, pl, _⟩ := I.list hq
  obtain ⟨u, hu, ru⟩ := rv.get hv
  exact wpAny_getItem_list pl.isList h0 h1 (by rw [List.getElem?_toArray]; exact hu) ⟨v, H, I, ru, q⟩
/-! ### a dict of the module, read -/
def rKd (K : PySem.W.Frag) (d : Addr) : R2 := fun x y H Q => ∃ (z : Str) (u0 : Value) (v0 : V), x = .ref d ∧ y = .str z ∧ PySem.W.nsIn K d z = some (some u0) ∧ RelV v0 u0 ∧ Q v0 H
theorem ix_kd {X : Cx} {d : Addr} {es : Array DictEntry} {n : Nat} (D : KDict X.K X.w d es n) : IxR X (rKd X.K d) := by
  intro value slice pins s σ H x y v u Q I rx ry ⟨z, u0, v0, ex, ey, e, r, q⟩ hs
  exact ix_kdict value slice pins s σ H x y v u Q I rx ry ⟨d, z, v0, ex, ey, ⟨es, n, u0, D.at_, D.lit, e, r⟩, q⟩ hs
/-! ### what a walk gives, where the heap only grows -/
theorem walk_enT {K : PySem.W.Frag} {a : Addr} {xs : List V} : Walk (Itet K a xs) xs.length (fun H => SqT K H a xs) (YPair (fun i => some (.int (i : Nat))) fun i => xs[i]?) where
  goes i H hi h := ⟨h, hi⟩
  stops H h := ⟨h, rfl⟩
  yields i H x H' hi h y := by
    obtain ⟨T, z, e1, e2, e3, e4⟩ := y
    exact ⟨T, _, z, e1, e2, e4, rfl, e3⟩
/-- what tLc asks behind its iterator -/
def Lcs (J : It) (g : TG) (te : TE) (vs : List Nat) (σ : L2.St) (H : Hp) (Q : VK) : Prop := tLc (fun _ G R => R J G) g tYes te vs σ H Q
/-- a comprehension that keeps all, its i-th item ys[i] -/
theorem lc_all {J : It} {n : Nat} {G : Hp → Prop} {Y : Nat → Hp → V → Hp → Prop} (w : Walk J n G Y) {g : TG} {te : TE} {vs : List Nat} {σ : L2.St} {H1 : Hp} {Q : VK} (ys : List V) (hn : ys.length = n) (hz : n ≤ 60000)
    (hG : ∀ H, Ext H1 H → G H)
    (hs : ∀ d, H1 d = none → ∀ i x y H H' (QE : VK), ys[i]? = some y → Ext H1 H → Y i H x H' → (∀ H4, Ext H H4 → QE y H4) → g x (wipe σ vs) H' fun σ2 H2 => wipe σ2 vs = wipe σ vs ∧ te σ2 H2 QE)
    (hm : ∀ {x : V} {τ : L2.St} {H : Hp} {P P' : L2.St → Hp → Prop}, (∀ τ H, P τ H → P' τ H) → g x τ H P → g x τ H P')
    (hd : ∀ d, H1 d = none → ∀ H, Ext H1 H → H d = some (.lst ys) → Q (.ref d) H) : Lcs J g te vs σ H1 Q := by
  intro D nD
  refine lc_it w (fun i H => Ext H1 H ∧ H D = some (.lst (ys.take i))) ⟨Evl.Ex.new nD, upd_same⟩ (fun i H _ p => hG H p.1) (fun i x H H' hi p y => ?_) fun H p => hd D nD H p.1 (by rw [p.2, ← hn, List.take_length])
  obtain ⟨z, hz'⟩ : ∃ z, ys[i]? = some z := ⟨_, List.getElem?_eq_getElem (hn ▸ hi)⟩
  refine hm (fun τ H2 q => q) (hs D nD i x z H H' (fun v H4 => ∃ acc, H4 D = some (.lst acc) ∧ acc.length < sizeLine ∧ Ext H1 (upd H4 D (.lst (acc ++ [v]))) ∧ upd H4 D (.lst (acc ++ [v])) D = some (.lst (ys.take (i + 1)))) hz' p.1 y fun H4 e => ?_)
  refine ⟨_, e _ _ p.2, ?_, (p.1.trans e).mut nD, ?_⟩
  · rw [List.length_take, sizeLine_eq]
    omega
  · rw [upd_same, List.take_add_one, hz']
    rfl
theorem mono_name {i : Nat} {x : V} {τ : L2.St} {H : Hp} {P P' : L2.St → Hp → Prop} (h : ∀ τ H, P τ H → P' τ H) (q : gName i x τ H P) : gName i x τ H P' := h _ _ q
end At

namespace At
open L2 PyProof.Rows PySem.Spec PySem
/-! ### loops and comprehensions, by what is walked -/
/-- what tFor asks behind its iterator -/
def Loops (J : It) (g : TG) (tb : TS) (D : Ends) (σ : L2.St) (H : Hp) : Prop := tFor (fun _ H R => R J H) g tb D σ H
section
variable {K : PySem.W.Frag} {a : Addr} {xs : List V} {g : TG} {tb : TS} {te : TE} {D : Ends} {σ : L2.St} {H : Hp} {wi : TI} {vs : List Nat} {Q : VK}
theorem go_for (h : wi σ H fun J H1 => Loops J g tb D σ H1) : tFor wi g tb D σ H := h
theorem go_lc (h : wi σ H fun J H1 => Lcs J g te vs σ H1 Q) : tLc wi g tYes te vs σ H Q := h
theorem loop_list (Pv : Nat → L2.St → Hp → Prop) (h0 : Pv 0 σ H) (hq : ∀ i σ H, i ≤ xs.length → Pv i σ H → SqL K H a xs)
    (hs : ∀ i x σ H, xs[i]? = some x → Pv i σ H → g x σ H fun σ2 H2 => tb { D with nx := Pv (i + 1), ct := Pv (i + 1), bk := D.nx } σ2 H2) (hd : ∀ σ H, Pv xs.length σ H → D.nx σ H) : Loops (Itl K a) g tb D σ H :=
  for_it walk_list Pv h0 hq (fun i x σ H H' _ p y => by
    obtain ⟨rfl, e⟩ := y
    exact hs i x σ _ e p) hd
theorem loop_tup (Pv : Nat → L2.St → Hp → Prop) (h0 : Pv 0 σ H) (hq : ∀ i σ H, i ≤ xs.length → Pv i σ H → SqT K H a xs)
    (hs : ∀ i x σ H, xs[i]? = some x → Pv i σ H → g x σ H fun σ2 H2 => tb { D with nx := Pv (i + 1), ct := Pv (i + 1), bk := D.nx } σ2 H2) (hd : ∀ σ H, Pv xs.length σ H → D.nx σ H) : Loops (Itt K a) g tb D σ H :=
  for_it walk_tup Pv h0 hq (fun i x σ H H' _ p y => by
    obtain ⟨rfl, e⟩ := y
    exact hs i x σ _ e p) hd
theorem loop_enumT (Pv : Nat → L2.St → Hp → Prop) (h0 : Pv 0 σ H) (hq : ∀ i σ H, i ≤ xs.length → Pv i σ H → SqT K H a xs)
    (hs : ∀ i x σ H T, xs[i]? = some x → Pv i σ H → H T = none → g (.ref T) σ (upd H T (.tup [.int (i : Nat), x])) fun σ2 H2 => tb { D with nx := Pv (i + 1), ct := Pv (i + 1), bk := D.nx } σ2 H2) (hd : ∀ σ H, Pv xs.length σ H → D.nx σ H) : Loops (Itet K a xs) g tb D σ H :=
  for_it walk_enT Pv h0 hq (fun i x σ H H' _ p y => by
    obtain ⟨T, u, v, rfl, nT, rfl, e1, e2⟩ := y
    cases Option.some.inj e1
    exact hs i v σ H T e2 p nT) hd
theorem loop_str {z : Str} (Pv : Nat → L2.St → Hp → Prop) (h0 : Pv 0 σ H) (hs : ∀ i c σ H, z.cps[i]? = some c → Pv i σ H → g (.str ⟨#[c]⟩) σ H fun σ2 H2 => tb { D with nx := Pv (i + 1), ct := Pv (i + 1), bk := D.nx } σ2 H2)
    (hd : ∀ σ H, Pv z.cps.size σ H → D.nx σ H) : Loops (Its z) g tb D σ H :=
  for_it walk_str Pv h0 (fun _ _ _ _ _ => trivial) (fun i x σ H H' _ p y => by
    obtain ⟨rfl, c, e, rfl⟩ := y
    exact hs i c σ _ e p) hd
theorem loop_range {lo : Int} {n : Nat} (Pv : Nat → L2.St → Hp → Prop) (h0 : Pv 0 σ H) (hs : ∀ i σ H, i < n → Pv i σ H → g (.int (lo + i)) σ H fun σ2 H2 => tb { D with nx := Pv (i + 1), ct := Pv (i + 1), bk := D.nx } σ2 H2)
    (hd : ∀ σ H, Pv n σ H → D.nx σ H) : Loops (Itr lo n) g tb D σ H := for_range Pv h0 hs hd
variable {j : Nat}
/-- the items by their places -/
theorem lc_tupI (ha : H a = some (.tup xs)) (hz : xs.length ≤ 60000) (f : Nat → V) 
    (hs : ∀ d, H d = none → ∀ i x H' (QE : VK), xs[i]? = some x → Ext H H' → (∀ H4, Ext H' H4 → QE (f i) H4) → gName j x (wipe σ vs) H' fun σ2 H2 => wipe σ2 vs = wipe σ vs ∧ te σ2 H2 QE)
    (hd : ∀ d, H d = none → ∀ H', Ext H H' → H' d = some (.lst ((List.range xs.length).map f)) → Q (.ref d) H') : Lcs (Itt K a) (gName j) te vs σ H Q :=
  lc_all walk_tup ((List.range xs.length).map f) (by rw [List.length_map, List.length_range]) hz (fun _ e => SqT.of (e _ _ ha)) (fun d nd i x y H1 H' QE hy e y1 q => by
    obtain ⟨rfl, e1⟩ := y1
    refine hs d nd i x _ QE e1 e fun H4 e4 => ?_
    have hi : i < xs.length := (List.getElem?_eq_some_iff.mp e1).1
    rw [List.getElem?_map, List.getElem?_range hi] at hy
    cases Option.some.inj hy
    exact q H4 e4) mono_name hd
theorem mapped {ys : List V} {f : V → V} {i : Nat} {x y : V} (h : (ys.map f)[i]? = some y) (e : ys[i]? = some x) : y = f x := by
  rw [List.getElem?_map, e] at h
  exact (Option.some.inj h).symm
theorem lc_tupP (ha : H a = some (.tup xs)) (hz : xs.length ≤ 60000) (f : V → V) 
    (hs : ∀ d, H d = none → ∀ x H' (_ : x ∈ xs) (_ : Ext H H') (QE : VK), (∀ H4, Ext H' H4 → QE (f x) H4) → gName j x (wipe σ vs) H' fun σ2 H2 => wipe σ2 vs = wipe σ vs ∧ te σ2 H2 QE)
    (hd : ∀ d, H d = none → ∀ H', Ext H H' → H' d = some (.lst (xs.map f)) → Q (.ref d) H') : Lcs (Itt K a) (gName j) te vs σ H Q :=
  lc_all walk_tup (xs.map f) (List.length_map ..) hz (fun _ e => SqT.of (e _ _ ha)) (fun d nd i x y H1 H' QE hy e y1 q => by
    obtain ⟨rfl, e1⟩ := y1
    cases mapped hy e1
    exact hs d nd x _ (List.mem_of_getElem? e1) e QE q) mono_name hd
theorem lc_lstP (ha : H a = some (.lst xs)) (hz : xs.length ≤ 60000) (f : V → V) 
    (hs : ∀ d, H d = none → ∀ x H' (_ : x ∈ xs) (_ : Ext H H') (QE : VK), (∀ H4, Ext H' H4 → QE (f x) H4) → gName j x (wipe σ vs) H' fun σ2 H2 => wipe σ2 vs = wipe σ vs ∧ te σ2 H2 QE)
    (hd : ∀ d, H d = none → ∀ H', Ext H H' → H' d = some (.lst (xs.map f)) → Q (.ref d) H') : Lcs (Itl K a) (gName j) te vs σ H Q :=
  lc_all walk_list (xs.map f) (List.length_map ..) hz (fun _ e => SqL.of (e _ _ ha)) (fun d nd i x y H1 H' QE hy e y1 q => by
    obtain ⟨rfl, e1⟩ := y1
    cases mapped hy e1
    exact hs d nd x _ (List.mem_of_getElem? e1) e QE q) mono_name hd
theorem lc_strP {z : Str} (hz : z.cps.size ≤ 60000) (f : Nat → V) 
    (hs : ∀ d, H d = none → ∀ c H' (_ : c ∈ z.cps.toList) (_ : Ext H H') (QE : VK), (∀ H4, Ext H' H4 → QE (f c) H4) → gName j (.str ⟨#[c]⟩) (wipe σ vs) H' fun σ2 H2 => wipe σ2 vs = wipe σ vs ∧ te σ2 H2 QE)
    (hd : ∀ d, H d = none → ∀ H', Ext H H' → H' d = some (.lst (z.cps.toList.map f)) → Q (.ref d) H') : Lcs (Its z) (gName j) te vs σ H Q :=
  lc_all walk_str (z.cps.toList.map f) (by rw [List.length_map, Array.length_toList]) hz (fun _ _ => trivial) (fun d nd i x y H1 H' QE hy e y1 q => by
    obtain ⟨rfl, c, e1, rfl⟩ := y1
    rw [List.getElem?_map, Array.getElem?_toList, e1] at hy
    cases Option.some.inj hy
    exact hs d nd c _ (Array.mem_toList_iff.mpr (Array.mem_of_getElem? e1)) e QE q) mono_name hd
theorem lc_rng {lo : Int} {n : Nat} (hz : n ≤ 60000) (f : Nat → V) 
    (hs : ∀ d, H d = none → ∀ i H' (_ : i < n) (_ : Ext H H') (QE : VK), (∀ H4, Ext H' H4 → QE (f i) H4) → gName j (.int (lo + (i : Nat))) (wipe σ vs) H' fun σ2 H2 => wipe σ2 vs = wipe σ vs ∧ te σ2 H2 QE)
    (hd : ∀ d, H d = none → ∀ H', Ext H H' → H' d = some (.lst ((List.range n).map f)) → Q (.ref d) H') : Lcs (Itr lo n) (gName j) te vs σ H Q :=
  lc_all (walk_range (lo := lo)) ((List.range n).map f) (by rw [List.length_map, List.length_range]) hz (fun _ _ => trivial) (fun d nd i x y H1 H' QE hy e y1 q => by
    obtain ⟨rfl, rfl⟩ := y1
    have hi : i < n := by
      have := (List.getElem?_eq_some_iff.mp hy).1
      rw [List.length_map, List.length_range] at this
      exact this
    rw [List.getElem?_map, List.getElem?_range hi] at hy
    cases Option.some.inj hy
    exact hs d nd i _ hi e QE q) mono_name hd
end
end At

namespace At
open L2 PyProof.Rows PySem.Spec PySem
/-! ### e[::-1] of a tuple and of a text -/
/-- a value of a built-in type whose own method takes indexes -/
def Items (s : Shared) (v : Value) : Prop := ∃ T id : String, s.TypeIs v T ∧ typeLookup (.type T) "__getitem__" = pure (some (.builtin id))
/-- r tells what comes of the slice (None, None, -1) -/
def SlBack (X : Cx) (r : V → Hp → VK → Prop) : Prop :=
  ∀ (pins : List (Addr × Obj)) (s : Shared) (σ : L2.St) (H : Hp) (x : V) (v : Value) (sl : Addr) (t : Tok) (Q : VK), Inv X pins σ H s → RelV x v →
    s.heap.IsSliceOf sl .none .none (.int (-1) t) → r x H Q →
    Items s v ∧ wpAny (model X.prog X.w) X.A (getItem v (.ref sl)) (EP X pins σ Q) X.xe s
def tBack (r : V → Hp → VK → Prop) (te : TE) : TE := fun σ H Q => te σ H fun x H1 => r x H1 Q
theorem go_back {r : V → Hp → VK → Prop} {te : TE} {σ : L2.St} {H : Hp} {Q : VK} (h : te σ H fun x H1 => r x H1 Q) : tBack r te σ H Q := h
theorem pe_back {X : Cx} {r : V → Hp → VK → Prop} {e : Expr} {te : TE} {k : Nat} {p1 p2 p3 pos : Pos} (hr : SlBack X r) (he : PE X e te) :
    PE X (.Subscript e (.Slice none none (some (.UnaryOp .USub (.Constant (.int 1) k p1) p2)) p3) pos) (tBack r te) := by
  constructor
  intro pins s σ H Q I h
  refine Subscript_ (thn (he.run pins s σ H _ I h) fun v s1 z => ?_)
  obtain ⟨x, H1, I1, rx, q⟩ := z
  have step : PO X (some (.UnaryOp .USub (.Constant (.int 1) k p1) p2)) _ := po_some (pe_un un_neg pe_int)
  refine wpAny_Slice ?_
  refine thn (po_none.run pins s1 σ H1 (fun o G => o = none ∧ G = H1) I1 ⟨rfl, rfl⟩) fun vl s2 z => ?_
  obtain ⟨l, G, I2, pl, rfl, rfl⟩ := z
  cases pl
  refine thn (po_none.run pins s2 σ G (fun o G' => o = none ∧ G' = G) I2 ⟨rfl, rfl⟩) fun vu s3 z => ?_
  obtain ⟨u, G', I3, pu, rfl, rfl⟩ := z
  cases pu
  refine thn (step.run pins s3 σ G' (fun o J => o = some (-1) ∧ J = G') I3 ⟨1, rfl, -1, rfl, rfl, rfl⟩) fun vs s4 z => ?_
  obtain ⟨o, J, I4, ps, rfl, rfl⟩ := z
  cases ps with
  | int _ t =>
    let s5 : Shared := { s4 with heap := s4.heap.push { cls := .type "slice", data := .fields #[.none, .none, .int (-1) t] } }
    have I5 : Inv X pins σ J s5 := I4.kept (t' := s4.toks) fun b ob q => Heap.get?_push_of_some _ q
    obtain ⟨⟨T, id, ty, lk⟩, run⟩ := hr pins s5 σ J x v s4.heap.objs.size t Q I5 rx (Heap.IsSliceOf.new ..) q
    exact tail_any (ops := [v, .ref s4.heap.objs.size]) ty lk run (by with_unfolding_all rfl)
def rBackT (K : PySem.W.Frag) : V → Hp → VK → Prop := fun x H Q => ∃ a xs, x = .ref a ∧ SqT K H a xs ∧ ∀ p, H p = none → Q (.ref p) (upd H p (.tup xs.reverse))
def rBackS : V → Hp → VK → Prop := fun x H Q => ∃ z : Str, x = .str z ∧ z.length ≤ sizeLine ∧ Q (.str ⟨z.cps.toList.reverse.toArray⟩) H
theorem adj_back (n : Nat) : Builtin.Slice.sliceAdjust none none (-1) (n : Int) = ((n : Int) - 1, -1) := rfl
theorem places_back (n : Nat) : Builtin.Slice.slicePlaces ((n : Int) - 1) (-1) (-1) = n := by
  (unfold Builtin.Slice.slicePlaces)
  rw [if_neg (by decide)]
  split
  · rw [show (-(-1) : Int) = 1 from rfl, Int.ediv_one]; omega
  · omega
theorem fm_same {α β : Type} {f g : α → Option β} : ∀ {l : List α}, (∀ a ∈ l, f a = g a) → l.filterMap f = l.filterMap g
  | [], _ => rfl
  | a :: l, h => by rw [List.filterMap_cons, List.filterMap_cons, h a List.mem_cons_self, fm_same fun b hb => h b (List.mem_cons_of_mem _ hb)]
theorem pick_back (xs : Array Value) : (List.range xs.size).filterMap (fun (k : Nat) => xs[((xs.size : Int) - 1 + (k : Int) * -1).toNat]?) = xs.toList.reverse := by
  have e : ∀ k ∈ List.range xs.size, xs[((xs.size : Int) - 1 + (k : Int) * -1).toNat]? = ((fun i => xs[i]?) ∘ fun k => xs.size - 1 - k) k := fun k hk => by
    have := List.mem_range.mp hk
    show _ = xs[xs.size - 1 - k]?
    congr 1
    omega
  rw [fm_same e, ← List.filterMap_map, PySem.W.krv_range, List.filterMap_reverse, PySem.W.krv_all]
theorem slot_none {M : Model} {A : Around} {E : Value → Shared → Prop} {s : Shared} {Q : Option Int → Shared → Prop} (h : Q none s) : wpAny M A (Builtin.Slice.slicePartIndex .none) Q E s := by
  (unfold Builtin.Slice.slicePartIndex)
  exact wpAny_pure h
theorem applied_back {prog : Program} {w : World} {A : Around} {E : Value → Shared → Prop} {s : Shared} {sl : Addr} {t : Tok} {n : Nat} {Q : Int × Int × Nat → Shared → Prop} (hs : s.heap.IsSliceOf sl .none .none (.int (-1) t))
    (h : Q ((n : Int) - 1, -1, n) s) : wpAny (model prog w) A (Builtin.Slice.sliceApplied (.ref sl) (pure (n : Int))) Q E s := by
  obtain ⟨ob, g, c, d⟩ := hs
  (unfold Builtin.Slice.sliceApplied Builtin.Slice.sliceFields)
  refine wpAny_bind (wpAny_bind (wpAny_field g d (x := .none) rfl (wpAny_bind (wpAny_field g d (x := .none) rfl (wpAny_bind (wpAny_field g d (x := .int (-1) t) rfl (wpAny_pure ?_)))))))
  refine wpAny_bind (HT.slicePart_ (.int (-1) t) ?_)
  refine wpAny_bind (HT.slicePart_ .none (wpAny_bind (HT.slicePart_ .none (wpAny_bind (wpAny_pure ?_)))))
  show wpAny _ _ (match Builtin.Slice.sliceAdjust none none (-1) (n : Int) with | (lo, hi) => pure (lo, (-1 : Int), Builtin.Slice.slicePlaces lo hi (-1))) _ _ s
  rw [adj_back]
  show wpAny _ _ (pure ((n : Int) - 1, (-1 : Int), Builtin.Slice.slicePlaces ((n : Int) - 1) (-1) (-1))) _ _ s
  rw [places_back]
  exact wpAny_pure h
/-- what the tuple's own method makes of that slice -/
theorem meets_tup_back (a sl : Addr) (items : Array Value) (t : Tok) : Meets (Builtin.«tuple.__getitem__» ⟨[.ref a, .ref sl], []⟩) (fun _ R s => (IsTup s.heap a items ∧ s.heap.IsSliceOf sl .none .none (.int (-1) t) ∧ items.size ≤ sizeLine) ∧
    R (.ok (.ret (.ref s.heap.objs.size))) { s with heap := s.heap.push { cls := .type "tuple", data := .seq items.toList.reverse.toArray } }) := by
  refine .of_wp fun prog w A R s ⟨⟨ht, hs, hz⟩, done⟩ => ?_
  obtain ⟨_, g, c, _⟩ := id hs
  show wpAny _ _ (Builtin.Tuple.tupleItemsOf _ >>= _) _ _ s
  refine wpAny_bind (PyProof.Rows.tupleItemsOf_ ht (wpAny_bind (wpAny_typeOf (v := .ref sl) ⟨_, g, c⟩ ?_)))
  refine wpAny_ite_true (by decide) (wpAny_bind (applied_back hs ?_))
  refine wpAny_ite_false (by simp) ?_
  have so : sizeOk (.seq items.toList.reverse.toArray) := show items.toList.reverse.toArray.size ≤ sizeLine by simpa using hz
  rw [pick_back]
  (unfold Builtin.Tuple.tupleExact)
  exact wpAny_bind (wpAny_newObj_type (wpAny_pure ⟨_, rfl, done⟩) so)
theorem back_tup {X : Cx} : SlBack X (rBackT X.K) := by
  intro pins s σ H x v sl t Q I rx hs h
  obtain ⟨a, xs, rfl, at_a, q⟩ := h
  have ev : v = Value.ref a := rx
  subst ev
  obtain ⟨its, rv, ht, hz⟩ := I.tuple at_a
  have few : its.toArray.size ≤ sizeLine := by rw [List.size_toArray, ← rv.length]; exact hz
  have end_ : EP X pins σ Q (.ref s.heap.objs.size) { s with heap := s.heap.push { cls := .type "tuple", data := .seq its.toArray.toList.reverse.toArray } } :=
    ⟨.ref _, _, I.laid (t' := s.toks) (o := .tup xs.reverse) (fun b ob e => Heap.get?_push_of_some _ e) (Nat.le_refl _) ⟨(List.length_reverse (as := xs)).symm ▸ hz, _, rv.reverse, IsTup.new _ _⟩, rfl, q _ (I.hok.fresh (Nat.le_refl _))⟩
  refine ⟨⟨"tuple", _, ht.typeIs, PyProof.Rows.slot_tuple_getitem.lookup⟩, ?_⟩
  have asked := call_meets (A := X.A) (w := X.w) (prog := X.prog) (Q := EP X pins σ Q) (E := X.xe) PyProof.Rows.slot_tuple_getitem ht.typeIs entry_tuple_getitem (args_tuple_getitem _ _) (meets_tup_back a sl its.toArray t) ⟨⟨ht, hs, few⟩, end_⟩
  unfold getItem
  exact wpAny_holding (wpAny_bind (wpAny_sequenceKey ht.typeIs (by decide) (wpAny_bind (wpAny_callSpecial?_slot (name := Str.ofString "__getitem__") ht.typeIs PyProof.Rows.slot_tuple_getitem (thn asked fun r s' z => wpAny_pure z)))))
theorem back_str {X : Cx} : SlBack X rBackS := by
  intro pins s σ H x v sl t Q I rx hs h
  obtain ⟨z, rfl, hz, q⟩ := h
  obtain ⟨tz, rfl⟩ := rx
  refine ⟨⟨"str", _, typeIs_str _ _ _, F.slot_str_getitem.lookup⟩, ?_⟩
  refine wpAny_getItem_str_slice (l := none) (u := none) (st := some (-1, t)) hs rfl ?_
  have e : (Builtin.Str.strSliceIndices none none (-1) z.length).filterMap (z.cps[·]?) = z.cps.toList.reverse := by
    rw [PyProof.Rows.picked_rev]
    show ((List.range z.cps.size).map fun k => z.cps.size - 1 - k).filterMap _ = _
    rw [PySem.W.krv_range, List.filterMap_reverse, PySem.W.krv_all]
  show Made.post (if ((-1 : Int) == 1 && (Builtin.Str.strSliceIndices none none (-1) z.length).length == z.length) = true then Made.val (.str z tz)
    else Made.str ⟨((Builtin.Str.strSliceIndices none none (-1) z.length).filterMap (z.cps[·]?)).toArray⟩) (EP X pins σ Q) s
  rw [if_neg (by rw [show ((-1 : Int) == 1) = false from rfl, Bool.false_and]; exact Bool.false_ne_true), e]
  refine ⟨?_, .str _, H, I.tok _, ⟨_, rfl⟩, q⟩
  show z.cps.toList.reverse.toArray.size ≤ sizeLine
  rw [List.size_toArray, List.length_reverse]
  exact hz
/-! ### comprehensions over a tuple of pairs -/
theorem mono_pair {K : PySem.W.Frag} {i j : Nat} {x : V} {τ : L2.St} {H : Hp} {P P' : L2.St → Hp → Prop} (h : ∀ τ H, P τ H → P' τ H) (q : gTup K 2 (gCons (gName i) (gCons (gName j) gNil)) x τ H P) : gTup K 2 (gCons (gName i) (gCons (gName j) gNil)) x τ H P' := by
  obtain ⟨a, xs, e1, e2, e3, v, ys, e4, w, zs, e5, e6, q⟩ := q
  exact ⟨a, xs, e1, e2, e3, v, ys, e4, w, zs, e5, e6, h _ _ q⟩
theorem lc_tup2 {K K' : PySem.W.Frag} {H : Hp} {a : Addr} {xs : List V} {j k : Nat} {te : TE} {vs : List Nat} {σ : L2.St} {Q : VK} (ha : H a = some (.tup xs)) (hz : xs.length ≤ 60000) (f : Nat → V)
    (hs : ∀ d, H d = none → ∀ i x H' (QE : VK), xs[i]? = some x → Ext H H' → (∀ H4, Ext H' H4 → QE (f i) H4) → gTup K' 2 (gCons (gName j) (gCons (gName k) gNil)) x (wipe σ vs) H' fun σ2 H2 => wipe σ2 vs = wipe σ vs ∧ te σ2 H2 QE)
    (hd : ∀ d, H d = none → ∀ H', Ext H H' → H' d = some (.lst ((List.range xs.length).map f)) → Q (.ref d) H') : Lcs (Itt K a) (gTup K' 2 (gCons (gName j) (gCons (gName k) gNil))) te vs σ H Q :=
  lc_all walk_tup ((List.range xs.length).map f) (by simp) hz (fun _ e => SqT.of (e _ _ ha)) (fun d nd i x y H1 H' QE hy e y1 q => by
    obtain ⟨rfl, e1⟩ := y1
    have hi : i < xs.length := (List.getElem?_eq_some_iff.mp e1).1
    have ey : y = f i := by
      rw [List.getElem?_map, List.getElem?_range hi] at hy
      exact (Option.some.inj hy).symm
    exact hs d nd i x _ QE e1 e fun H4 e4 => ey ▸ q H4 e4) mono_pair hd
/-! ### f(k = v, ..): keywords alone -/
def tCallN0 (m : Nat) (sp : Sp) (gV : List V → List V → List V) (E : XK) (tk : TA) : TE := fun σ H Q => tk σ H fun zs H1 => zs.length = m ∧ sp (gV [] zs) H1 Q E
theorem go_callN0 {m : Nat} {sp : Sp} {gV : List V → List V → List V} {E : XK} {tk : TA} {σ : L2.St} {H : Hp} {Q : VK} (h : tk σ H fun zs H1 => zs.length = m ∧ sp (gV [] zs) H1 Q E) : tCallN0 m sp gV E tk σ H Q := h
theorem pe_callN0 {X : Cx} {CX : CXT} {k : Nat} {f : Addr} {fd : FuncData} {ps ks : List Str} {sp : Sp} {E : XK} {x : Str} {p pos : Pos} {kws : List Keyword} {tk : TA} {g : List Value → List Value → List Value} {gV : List V → List V → List V}
    (F : FnOk X.prog X.w X.K X.mg X.base CX k f fd ps sp) (hr : Room k X.A) (hg : Gl X x) (hm : X.mg x = some (.ref f)) (hk : PySem.W.keepIn X.K (.ref f) = true) (hb : KBn X.K fd ps 0 ks g gV) (hx : Passes CX X E) (hkw : PK X kws tk)
    (named : (backToKw pos (keywordEach kws X.env)).all (·.1.isSome) = true := by rfl) (names : (backToKw pos (keywordEach kws X.env)).filterMap (·.1) = ks := by rfl) (nd : (x == ("__debug__" : Str)) = false := by decide)
    (plain : ((backTo pos (starEach [] X.env)).any (·.1) || (backToKw pos (keywordEach kws X.env)).any (·.1.isNone)) = false := by rfl) : PE X (.Call (.Name x p) [] kws pos) (tCallN0 ks.length sp gV E tk) := by
  constructor
  intro pins s σ H Q I h
  refine wpAny_Call_Name_kw (ld_glob I hg hm (PySem.W.callWith_KW0 (h₀ := X.base) I.ok.mod.kin hk named ?_ plain) nd)
  refine thn (hkw.run pos pins s σ H _ I h) fun ws s2 z => ?_
  obtain ⟨zs, H2, I2, rz, l2, q2⟩ := z
  refine ⟨I2.kIn, ?_⟩
  rw [names]
  exact run_fnN (us := []) (vs := []) F hr hb hx I2 .nil rz rfl l2 q2
/-- the order of two keywords turned round -/
def gSwap {α : Type} : List α → List α → List α
  | _, [a, b] => [b, a]
  | _, ws => ws
theorem relSwap {vs : List V} {us : List Value} {zs : List V} {ws : List Value} (a : Vals vs us) (b : Vals zs ws) : Vals (gSwap vs zs) (gSwap us ws) := by
  cases b with
  | nil => exact .nil
  | cons p b => cases b with
    | nil => exact .cons p .nil
    | cons q b => cases b with
      | nil => exact .cons q (.cons p .nil)
      | cons r b => exact .cons p (.cons q (.cons r b))
def gSame {α : Type} : List α → List α → List α := fun _ ws => ws
theorem relSame {vs : List V} {us : List Value} {zs : List V} {ws : List Value} (a : Vals vs us) (b : Vals zs ws) : Vals (gSame vs zs) (gSame us ws) := b
end At

namespace At
open L2 PyProof.Rows PySem.Spec PySem
/-! ### sorted(t), t a tuple of whole numbers -/
def rSortT (K : PySem.W.Frag) : List V → Hp → VK → Prop := fun vs H Q => ∃ (a : Addr) (ns : List Int), vs = [.ref a] ∧ SqT K H a (ns.map .int) ∧ ns.length < 64 ∧
  ∀ (ms : List Int) (p : Addr), ms.Perm ns → ms.Pairwise (· ≤ ·) → H p = none → Q (.ref p) (upd H p (.lst (ms.map .int)))
theorem cr_sortT {X : Cx} : CallR X (.builtin "sorted") (rSortT X.K) := by
  (intro pins s σ H vs us Q I r h)
  (obtain ⟨a, ns, rfl, hs, h64, q⟩ := h)
  obtain ⟨its, rv, tup, hz⟩ := I.tuple hs
  obtain ⟨o, ho, hc, n, hd⟩ := tup
  have hi := rv.ints
  have fits : its.length ≤ sizeLine := by rw [← rv.length]; exact hz
  rw [Vals.ref1 r]
  (refine Calls.call_function_entry kind_sorted plain_sorted entry_sorted (args_sorted1 _) ?_)
  unfold Builtin.«sorted»
  refine wpAny_bind (wpAny_pure (wpAny_bind (wpAny_collect_seq a (.inr rfl) ho hc hd (fun h' k => ?_) (by rw [List.size_toArray]; exact fits))))
  refine wpAny_bind (wpAny_newList ?_ (by simpa using fits))
  have here : (h'.push (seqObj "list" its.toArray 0)).get? h'.objs.size = some (seqObj "list" its.toArray 0) := Heap.get?_push_size _ rfl
  have sorts := fun A => list_sort_tree (prog := X.prog) (w := X.w) (A := A) (E := X.xe) (s := { s with heap := h'.push (seqObj "list" its.toArray 0) }) (P := fun r s' => ∃ v, r = .done (.ret v) ∧ ∃ out ms, s' = { s with heap := sortedHeap (h'.push (seqObj "list" its.toArray 0)) h'.objs.size its out } ∧ IntsAre out.toList ms ∧ ms.Perm ns ∧ ms.Pairwise (· ≤ ·)) here hi (by rw [hi.length]; exact h64) fun out ms h1 h2 h3 => ⟨_, rfl, out, ms, rfl, h1, h2, h3⟩
  refine wpAny_bind (wpAny_holding (thn (wpAny_call_entry slot_list_sort ⟨_, here, rfl⟩ entry_list_sort (sorts _) (args_list_sort _)) fun u s2 z => ?_))
  obtain ⟨out, ms, rfl, h1, h2, h3⟩ := z
  obtain ⟨ep, at_p⟩ := sortedHeap_at (vs := its) (out := out) here
  have I1 : Inv X pins σ H { s with heap := h' } := I.kept (t' := s.toks) k
  have old : ∀ b u, h'.get? b = some u → (sortedHeap (h'.push (seqObj "list" its.toArray 0)) h'.objs.size its out).get? b = some u := fun b u hb => by
    have lt := Heap.lt_size hb
    have sz : (h'.push (seqObj "list" its.toArray 0)).objs.size = h'.objs.size + 1 := size_push' _ _
    rw [sortedHeap_old (Nat.ne_of_lt lt) (by rw [sz]; exact Nat.lt_succ_of_lt lt), Heap.get?_push_of_some _ hb]
  have len : (ms.map V.int).length ≤ sizeLine := by rw [List.length_map, h2.length_eq]; exact small64 h64
  exact wpAny_pure ⟨_, rfl, V.ref h'.objs.size, _, I1.laid (t' := s.toks) (o := .lst (ms.map .int)) old (Nat.le_refl _) ⟨len, out.toList, ep, vals_of_ints h1, at_p⟩, rfl, q ms _ h2 h3 (I1.hok.fresh (Nat.le_refl _))⟩
end At

namespace At
open L2 PyProof.Rows PySem.Spec PySem
/-- a function brought from the module math: the global name holds the built-in -/
theorem pe_callI {X : Cx} {x : Str} {at1 at2 : Pos} {e1 : Expr} {more : List Expr} {ts : TA} {nm : String} {rule : List V → Hp → VK → Prop} (hc : CallR X (.builtin nm) rule) (hg : Gl X x) (hm : X.mg x = some (.builtin nm)) (hs : PA X (e1 :: more) ts)
    (hd : (x == ("__debug__" : Str)) = false := by decide) (one : starEach (e1 :: more) X.env = (false, eval e1 X.env) :: starEach more X.env := by rfl) (none_ : (backTo at2 (starEach more X.env)).any (·.1) = false := by rfl) :
    PE X (.Call (.Name x at1) (e1 :: more) [] at2) (tCB rule ts) where
  run pins s σ H Q I h := wpAny_Call_Name_kw (ld_glob I hg hm (PyProof.Rows.callWith_builtin1
    (thn (hs.run at2 pins s σ H _ I h) fun us s' got => by
      obtain ⟨ys, H', I', rel, z⟩ := got
      exact hc pins s' σ H' ys us Q I' rel z) one none_) hd)
theorem pi_tupK {X : Cx} {K : PySem.W.Frag} {tg e : Expr} {te : TE} (same : X.K = K) (he : PE X e te) : PI X tg e (iTup K te) := same ▸ pi_tup he
theorem pi_listK {X : Cx} {K : PySem.W.Frag} {tg e : Expr} {te : TE} (same : X.K = K) (he : PE X e te) : PI X tg e (iList K te) := same ▸ pi_list he
theorem cr_maxK {X : Cx} {K : PySem.W.Frag} (same : X.K = K) (calm : X.calm = true) : CallR X (.builtin "max") (rMax K) := same ▸ cr_max calm
theorem cr_minK {X : Cx} {K : PySem.W.Frag} (same : X.K = K) (calm : X.calm = true) : CallR X (.builtin "min") (rMin K) := same ▸ cr_min calm
theorem cr_allK {X : Cx} {K : PySem.W.Frag} (same : X.K = K) (calm : X.calm = true) : CallR X (.builtin "all") (rAll K) := same ▸ cr_all calm
/-- what tuple(..) of a list or a tuple asks, the frame named -/
abbrev asksTup (K : PySem.W.Frag) : List V → Hp → VK → Prop := fun args H R => ∃ (b : Addr) (zs : List V), args = [.ref b] ∧ ((SqL K H b zs ∧ ∀ t, H t = none → R (.ref t) (upd H t (.tup zs))) ∨ SqT K H b zs ∧ R (.ref b) H)
/-- what list(..) of a list or a tuple asks, the frame named -/
abbrev asksLst (K : PySem.W.Frag) : List V → Hp → VK → Prop := fun args H R => ∃ (b : Addr) (zs : List V), args = [.ref b] ∧ (SqL K H b zs ∨ SqT K H b zs) ∧ ∀ t, H t = none → R (.ref t) (upd H t (.lst zs))
theorem call_tupK {X : Cx} {K : PySem.W.Frag} (same : X.K = K) : CallR X (.type "tuple") (asksTup K) := by
  subst same
  exact call_tuple_of
theorem call_lstK {X : Cx} {K : PySem.W.Frag} (same : X.K = K) : CallR X (.type "list") (asksLst K) := by
  subst same
  exact call_list_of
theorem op_in_seqK {X : Cx} {K : PySem.W.Frag} (same : X.K = K) : OpR X (compareOp .In) (rIn K false) := same ▸ op_in_seq
theorem op_notin_seqK {X : Cx} {K : PySem.W.Frag} (same : X.K = K) : OpR X (compareOp .NotIn) (rIn K true) := same ▸ op_notIn_seq
/-- a comprehension with a test, behind its iterator -/
def LcT (J : It) (g : TG) (tt : TT) (te : TE) (vs : List Nat) (σ : L2.St) (H : Hp) (Q : VK) : Prop := tLc (fun _ G R => R J G) g tt te vs σ H Q
theorem go_lcT {wi : TI} {g : TG} {tt : TT} {te : TE} {vs : List Nat} {σ : L2.St} {H : Hp} {Q : VK} (h : wi σ H fun J H1 => LcT J g tt te vs σ H1 Q) : tLc wi g tt te vs σ H Q := h
theorem go_meth {C : Addr} {m : Str} {sp : Sp} {E : XK} {ta : TE} {t : TA} {σ : L2.St} {H : Hp} {Q : VK} (h : ta σ H fun x H1 => ∃ a dx fs, x = .ref a ∧ H1 a = some (.ins C dx fs) ∧ fs.lookup m = none ∧ t σ H1 fun vs H2 => sp (x :: vs) H2 Q E) : tMeth C m sp [] E ta t σ H Q := by
  have e : (fun vs H2 => sp (V.non :: (vs ++ [])) H2 Q E) = (fun vs H2 => sp (V.non :: vs) H2 Q E) := by
    funext vs H2
    rw [List.append_nil]
  have e2 : ∀ x : V, (fun vs H2 => sp (x :: (vs ++ [])) H2 Q E) = (fun vs H2 => sp (x :: vs) H2 Q E) := fun x => by
    funext vs H2
    rw [List.append_nil]
  show ta σ H fun x H1 => ∃ a dx fs, x = .ref a ∧ H1 a = some (.ins C dx fs) ∧ fs.lookup m = none ∧ t σ H1 fun vs H2 => sp (x :: (vs ++ [])) H2 Q E
  simp only [e2]
  exact h
end At

namespace At
open L2 PyProof.Rows PySem.Spec PySem
/-! ### a tuple whose own record is known: it has no dict, so its methods can be called -/
def Frt (H : Hp) (a : Addr) (xs : List V) : Prop := ∃ o : Obj, H a = some (.frz o (.tup xs)) ∧ o.dict = none
theorem Frt.ext {H H' : Hp} {a : Addr} {xs : List V} (h : Frt H a xs) (e : Ext H H') : Frt H' a xs := let ⟨o, h1, h2⟩ := h; ⟨o, e _ _ h1, h2⟩
section
variable {pins : List (Addr × Obj)} {σ : L2.St} {H : Hp} {s : Shared} {X : Cx}
theorem frt_ok {a : Addr} {xs : List V} (I : Inv X pins σ H s) (h : Frt H a xs) : ∃ its : List Value, Vals xs its ∧ IsTup s.heap a its.toArray ∧ ∃ o, s.heap.get? a = some o ∧ o.dict = none := by
  obtain ⟨o, h1, h2⟩ := h
  obtain ⟨e, _, its, rv, p⟩ := (show ObjOk X.prog X.w H s.heap a (.frz o (.tup xs)) from I.hok a _ h1)
  exact ⟨its, rv, p, o, e, h2⟩
/-- tuple(list): as a tuple, or as one whose record is known -/
def rTupF (K : PySem.W.Frag) : List V → Hp → VK → Prop := fun vs H Q => ∃ p ys, vs = [.ref p] ∧ SqL K H p ys ∧
  ((∀ l, H l = none → Q (.ref l) (upd H l (.tup ys))) ∨ ∀ l o, H l = none → o.dict = none → Q (.ref l) (upd H l (.frz o (.tup ys))))
theorem call_tupF : CallR X (.type "tuple") (rTupF X.K) := by
  intro pins s σ H xs us Q I r ⟨p, ys, ex, hq, h⟩
  subst ex
  rw [Vals.ref1 r]
  (obtain ⟨its, rv, pl, hz⟩ := I.list hq)
  have hl := rv.length
  refine PySem.call_tuple_list pl.isList (fun h' kp => ?_) (by rw [List.size_toArray, ← hl]; exact hz)
  have J : Inv X pins σ H { s with heap := h' } := I.kept (t' := s.toks) kp
  have new : H h'.objs.size = none := J.hok.fresh (Nat.le_refl _)
  have old : ∀ b o, h'.get? b = some o → (h'.push { cls := .type "tuple", data := .seq its.toArray }).get? b = some o := fun b o e => Heap.get?_push_of_some _ e
  rcases h with h | h
  · exact ⟨.ref h'.objs.size, _, J.laid (t' := s.toks) (o := .tup ys) old (Nat.le_refl _) ⟨hz, its, rv, IsTup.new _ _⟩, rfl, h _ new⟩
  · refine ⟨.ref h'.objs.size, _, J.laid (t' := s.toks) (o := .frz { cls := .type "tuple", data := .seq its.toArray } (.tup ys)) old (Nat.le_refl _) ⟨Heap.get?_push_size _ rfl, hz, its, rv, IsTup.new _ _⟩, rfl, h _ _ new rfl⟩
/-- max(t) of such a tuple -/
def rMostF (f : Int → Int → Int) : List V → Hp → VK → Prop := fun vs H Q => ∃ (a : Addr) (n : Int) (ns : List Int), vs = [.ref a] ∧ Frt H a (.int n :: ns.map .int) ∧ Q (.int (ns.foldl f n)) H
theorem cr_mostF {k : Nat} (hc : X.calm = true) (hr : Room k X.A) : CallR X (.builtin "max") (rMostF max) := by
  intro pins s σ H vs us Q I r ⟨a, n, ns, e, hs, q⟩
  subst e
  obtain ⟨its, rv, p, _⟩ := frt_ok I hs
  rw [Vals.ref1 r]
  refine PySem.W.max_tuple_data (x := .int n) (xs := ns.map .int) (as := []) (I.ok.hd hc) p (reads_nums (ns := n :: ns) rv) (alike_nums (n :: ns)) ?_ fun _ v h' tk bs _ rd hk => ?_
  · rw [show PyData.int n :: ns.map PyData.int = (n :: ns).map .int from rfl, flat_nums]
    have := hr.un
    omega
  · rw [PySem.W.maxD_ints] at rd
    exact ⟨_, H, I.kept hk, int_of_reads rd, q⟩
end
/-- t.index(k), k among the whole numbers of t -/
def tTidx (to te : TE) : TE := fun σ H Q => to σ H fun x H1 => ∃ (a : Addr) (ns : List Int), x = .ref a ∧ Frt H1 a (ns.map .int) ∧ te σ H1 fun y H2 => ∃ k, y = .int k ∧ k ∈ ns ∧ Frt H2 a (ns.map .int) ∧ Q (.int (ns.idxOf k : Nat)) H2
theorem go_tidx {σ : L2.St} {H : Hp} {Q : VK} {to te : TE} (h : to σ H fun x H1 => ∃ (a : Addr) (ns : List Int), x = .ref a ∧ Frt H1 a (ns.map .int) ∧ te σ H1 fun y H2 => ∃ k, y = .int k ∧ k ∈ ns ∧ Frt H2 a (ns.map .int) ∧ Q (.int (ns.idxOf k : Nat)) H2) : tTidx to te σ H Q := h
section
variable {X : Cx} {o e : Expr} {to te : TE} {apos cpos : Pos}
theorem pe_tidx (ho : PE X o to) (he : PE X e te) (hb : attributeBase o "index" X.env (eval o X.env) = eval o X.env := by rfl)
    (few : ((backTo cpos (starEach [e] X.env)).all (fun x => !x.1) && (backToKw cpos (keywordEach [] X.env)).all (fun x => x.1.isSome) && decide (([e] : List Expr).length + ([] : List Keyword).length + (if ([] : List Keyword).isEmpty then 0 else 1) < 30)) = true := by rfl)
    (line : (apos.endLine == cpos.line) = true := by rfl) (hs : starEach [e] X.env = (false, eval e X.env) :: starEach [] X.env := by rfl) (plain : (backTo cpos (starEach [] X.env)).any (·.1) = false := by rfl) :
    PE X (.Call (.Attribute o "index" apos) [e] [] cpos) (tTidx to te) := by
  have args : PA X [e] (tCons te tNil) := pa_cons he pa_nil hs
  constructor
  intro pins s σ H Q I h
  refine wpAny_Call_method_late hb few line rfl (thn (ho.run pins s σ H _ I h) fun v s1 z => ?_)
  obtain ⟨x, H1, I1, rx, a, ns, rfl, ft, q⟩ := z
  (cases (show v = Value.ref a from rx))
  obtain ⟨its, _, ⟨ob, g, c, _⟩, ob', g', nod⟩ := frt_ok I1 ft
  refine ⟨"tuple", "tuple.index", PySem.F.plainAttrs_tuple, PySem.F.slot_tuple_index, PySem.F.type_tuple_index, ⟨ob, g, c⟩, fun b eb => ?_, ?_⟩
  · cases eb
    exact ⟨ob', g', nod⟩
  have got := args.run cpos pins s1 σ H1 (fun vs H2 => ∃ k, vs = [V.int k] ∧ k ∈ ns ∧ Frt H2 a (ns.map .int) ∧ Q (.int (ns.idxOf k : Nat)) H2) I1 (go_cons (show te σ H1 _ from by
    have e1 : (fun (y : V) (H2 : Hp) => tNil σ H2 fun xs H3 => ∃ k, (y :: xs : List V) = [V.int k] ∧ k ∈ ns ∧ Frt H3 a (ns.map .int) ∧ Q (.int (ns.idxOf k : Nat)) H3) = fun y H2 => ∃ k, y = .int k ∧ k ∈ ns ∧ Frt H2 a (ns.map .int) ∧ Q (.int (ns.idxOf k : Nat)) H2 := by
      funext y H2
      apply propext
      constructor
      · rintro ⟨k, e, r⟩
        exact ⟨k, (List.cons.inj e).1, r⟩
      · rintro ⟨k, e, r⟩
        exact ⟨k, by rw [e], r⟩
    rw [e1]
    exact q))
  rw [hs] at got ⊢
  refine Calls.callWith_builtin (by show (false || (backTo cpos (starEach [] X.env)).any (·.1)) = false; rw [plain]; rfl) (Calls.evalArgs_plain ?_)
  refine thn got fun us s2 w => ?_
  obtain ⟨vs, H2, I2, r2, k, rfl, hk, ft2, q2⟩ := w
  obtain ⟨its2, rv2, p2, _⟩ := frt_ok I2 ft2
  match us, r2 with
  | [u], .cons ru .nil =>
    obtain ⟨t, rfl⟩ := (show ∃ t, u = Value.int k t from ru)
    exact PySem.SeqAt.tuple_index_ints p2 (Vals.ints rv2) hk ⟨.int (ns.idxOf k : Nat), H2, I2.tok _, ⟨_, rfl⟩, q2⟩
end
/-- C(*y): a new instance, its parameters the items of y -/
def tMakeS (K : PySem.W.Frag) (C : Addr) (sp : Sp) (E : XK) (te : TE) : TE := fun σ H Q => te σ H fun y H1 => ∃ a xs, y = V.ref a ∧ (SqT K H1 a xs ∨ SqL K H1 a xs) ∧
  ∀ x dx, H1 x = none → H1 dx = none → dx ≠ x → sp (.ref x :: xs) (upd (upd H1 dx (.own x)) x (.ins C dx [])) (fun v H2 => v = .non ∧ Q (.ref x) H2) E
theorem go_makeS {K : PySem.W.Frag} {C : Addr} {sp : Sp} {E : XK} {te : TE} {σ : L2.St} {H : Hp} {Q : VK} (h : te σ H fun y H1 => ∃ a xs, y = V.ref a ∧ (SqT K H1 a xs ∨ SqL K H1 a xs) ∧
  ∀ x dx, H1 x = none → H1 dx = none → dx ≠ x → sp (.ref x :: xs) (upd (upd H1 dx (.own x)) x (.ins C dx [])) (fun v H2 => v = .non ∧ Q (.ref x) H2) E) : tMakeS K C sp E te σ H Q := h
theorem pe_makeS {X : Cx} {CX : CXT} {k : Nat} {f C : Addr} {sp : Sp} {E : XK} {x : Str} {e : Expr} {te : TE} {p q pos : Pos} (M : Mk X.K C f) (F : FnR X.prog X.w X.K X.mg X.base CX k f sp) (hr : Room (k + 1) X.A) (hg : Gl X x) (hm : X.mg x = some (.ref C)) (hx : Passes CX X E) (he : PE X e te)
    (hd : (x == ("__debug__" : Str)) = false := by decide) (one : starEach [.Starred e q] X.env = [(true, eval e X.env)] := by rfl) : PE X (.Call (.Name x p) [.Starred e q] [] pos) (tMakeS X.K C sp E te) := by
  constructor
  intro pins s σ H Q I h
  refine wpAny_Call_Name_kw (ld_glob I hg hm (PySem.W.callWith_S (h₀ := X.base) I.ok.mod.kin M.kp (thn (he.run pins s σ H _ I h) fun v s1 z => ?_) one) hd)
  obtain ⟨y, J, I1, ry, a, xs, rfl, hxs, made⟩ := z
  cases (show v = Value.ref a from ry)
  exact StX.star_any I1 hxs fun us s2 I2 rv => ⟨I2.kIn, StX.run_makeR M F hr hx I2 rv made⟩
end At

namespace At
open L2 PyProof.Rows PySem.Spec PySem
/-! ### what the head is asked of an own class -/
def GR : Int := 10 ^ 60 * 10 ^ 60 * 10 ^ 60 * 10 ^ 60 * 10 ^ 60
def MT : Int := 10 ^ 62 * 10 ^ 62 * 10 ^ 62 * 10 ^ 62 * 10 ^ 62
def method (K : PySem.W.Frag) (c m : Str) : Addr := He.ma K (He.ga K c) m
/-- where the property's own object stands, and its getter -/
def propAt (K : PySem.W.Frag) (c p : Str) : Addr := match PySem.W.findIn K (.ref (He.ga K c)) p with
  | some (some (.ref a)) => a
  | _ => 0
def getter (K : PySem.W.Frag) (c p : Str) : Addr := match PySem.W.recIn K (propAt K c p) "property" with
  | some (.ref g :: _) => g
  | _ => 0
def atG (x : Str) (s : Stmt) : He5.DefA := ⟨fun K => He.ga K x, x, x, defArgs s, defBody s, defScope s, [], []⟩
def atM (c m q : Str) (s : Stmt) : He5.DefA := ⟨fun K => method K c m, m, q, defArgs s, defBody s, defScope s, [], []⟩
def atP (c m q : Str) (s : Stmt) : He5.DefA := ⟨fun K => getter K c m, m, q, defArgs s, defBody s, defScope s, [], []⟩
def starts (g : Addr) : Option (List Value) → Bool
  | some (v :: _) => v == .ref g
  | _ => false
def propOk (K : PySem.W.Frag) (c p : Str) : Bool := decide (PySem.W.findIn K (.ref (He.ga K c)) p = some (some (.ref (propAt K c p)))) && (decide (PySem.W.specialIn K (.ref (propAt K c p)) "__get__" = some (some (.builtin "property.__get__"))) &&
  (decide (PySem.W.takesIn K (.ref (propAt K c p)) = some true) && starts (getter K c p) (PySem.W.recIn K (propAt K c p) "property")))
def eqOk (K : PySem.W.Frag) (c : Str) : Bool := decide (PySem.W.findIn K (.ref (He.ga K c)) "__eq__" = some (some (.ref (method K c "__eq__")))) && (PySem.W.isFn K (.ref (method K c "__eq__")) &&
  (decide (PySem.W.findIn K (.ref (He.ga K c)) "__ne__" = some (some (.builtin "object.__ne__"))) && decide (PySem.W.mroIn K (He.ga K c) (.type "object") = some true)))
def isOk (K : PySem.W.Frag) (c : Str) : Bool := decide (PySem.W.findIn K (.ref (He.ga K c)) "__class__" = some (some (.builtin "object.__class__"))) && (decide (PySem.W.specialIn K (.builtin "object.__class__") "__get__" = some (some (.builtin "getset_descriptor.__get__"))) &&
  (decide (PySem.W.takesIn K (.builtin "object.__class__") = some true) && (decide (PySem.W.mroIn K (He.ga K c) (.type "object") = some true) && (decide (PySem.W.kitOne K (.type "tuple") (.ref (He.ga K c)) = some false) && PySem.W.notFirst K (He.ga K c) (.type "tuple")))))
section
variable {K : PySem.W.Frag} {c p : Str}
theorem propOk.of (h : propOk K c p = true) : PropOf K (He.ga K c) p (propAt K c p) (getter K c p) := by
  unfold propOk at h
  (simp only [Bool.and_eq_true, decide_eq_true_eq] at h)
  obtain ⟨h1, h2, h3, h4⟩ := h
  refine ⟨h1, h2, h3, ?_⟩
  match e : PySem.W.recIn K (propAt K c p) "property", h4 with
  | some (v :: r), h4 => exact ⟨r, by rw [eq_of_beq (show (v == .ref (getter K c p)) = true from h4)]⟩
theorem eqOk.of (h : eqOk K c = true) : EqAt_ K (He.ga K c) (method K c "__eq__") := by
  unfold eqOk at h
  (simp only [Bool.and_eq_true, decide_eq_true_eq] at h)
  obtain ⟨h1, h2, h3, h4⟩ := h
  exact ⟨h1, h2, h3, h4⟩
/-- an instance's class, as isinstance and == see it -/
theorem isOk.ty (h : isOk K c = true) (cl : Cls K (He.ga K c)) {H : Hp} {a dx : Addr} {fs : List (Str × V)} (e : H a = some (.ins (He.ga K c) dx fs)) : TyX K H (.ref a) (.ref (He.ga K c)) := by
  unfold isOk at h
  (simp only [Bool.and_eq_true, decide_eq_true_eq] at h)
  obtain ⟨h1, h2, h3, h4, _⟩ := h
  exact .base (.ins e cl h1 h2 h3 h4)
theorem isOk.no (h : isOk K c = true) : PySem.W.kitOne K (.type "tuple") (.ref (He.ga K c)) = some false := by
  unfold isOk at h
  (simp only [Bool.and_eq_true, decide_eq_true_eq] at h)
  exact h.2.2.2.2.1
theorem isOk.tup (h : isOk K c = true) : PySem.W.notFirst K (He.ga K c) (.type "tuple") = true := by
  unfold isOk at h
  (simp only [Bool.and_eq_true, decide_eq_true_eq] at h)
  exact h.2.2.2.2.2
theorem same_first (C : Addr) : PySem.W.notFirst K C (.ref C) = true := by
  unfold PySem.W.notFirst
  rw [show (Value.ref C == Value.ref C) = true from beq_self_eq_true _, Bool.true_or]
theorem same_kit (C : Addr) : PySem.W.kitOne K (.ref C) (.ref C) = some true := by
  unfold PySem.W.kitOne
  (rw [if_pos (beq_self_eq_true _)])
end
/-- a def's promise, where it stands -/
def OkD (P : Program) (w : World) (K : PySem.W.Frag) (mg : Str → Option Value) (base : Heap) (k : Nat) (f : Addr) (ps : List Str) (sp : Sp) : Prop :=
  ∃ fd, FnOk P w K mg base CX0 k f fd ps sp ∧ Binds K fd ps [] ∧ PySem.W.keepIn K (.ref f) = true
theorem plainR {P : Program} {w : World} {K : PySem.W.Frag} {mg : Str → Option Value} {base : Heap} {CX : CXT} {k : Nat} {f : Addr} {fd : FuncData} {ps : List Str} {sp : Sp} (F : FnOk P w K mg base CX k f fd ps sp) (b : Binds K fd ps []) : FnR P w K mg base CX k f sp :=
  (F.raw b .nil).imp fun vs H Q E h => by rw [List.append_nil]; exact h
/-- f(k = v, ..) and C(k = v, ..): all parameters by keywords -/
theorem kbn_of {K : PySem.W.Frag} {x q : Str} {st : Stmt} {f : Addr} {fd : FuncData} {ps : List Str} (F : Fun K x q st f fd) (n : Nat) (ks : List Str) (g : {α : Type} → List α → List α → List α) (hr : ∀ {vs : List V} {us : List Value} {zs : List V} {ws : List Value}, Vals vs us → Vals zs ws → Vals (g vs zs) (g us ws))
    (h : ∀ (kV doc pm : Value) (an : Option Addr) (cdv ct : Value) (us ws : List Value), us.length = n → ws.length = ks.length → bindArgs (PySem.W.fnOf x q (defArgs st) (defBody st) (defScope st) .none kV doc pm an cdv ct) ⟨us, ks.zip ws⟩ = pure (ps.zip (g us ws))) :
    KBn K fd ps n ks (fun us ws => g us ws) (fun vs zs => g vs zs) := by
  obtain ⟨_, _, kV, doc, pm, an, cdv, ct, _, rfl, _, _⟩ := F.ex
  exact ⟨fun s us ws _ l1 l2 => .of_eq (h kV doc pm an cdv ct us ws l1 l2), hr⟩
end At

/-! Arrowtrios: turns, words and what they lead to. Plain Lean. -/
namespace At
inductive P3 where
  | a | b | c
  deriving DecidableEq
def P3.i : P3 → Int
  | .a => 0
  | .b => 1
  | .c => 2
abbrev T3 := Int × Int × Int
def push (u v w : Int) : Int := if 0 < u ∧ 0 < v then w - u * v else if u < 0 ∧ v < 0 then w + u * v else w
def turn : P3 → T3 → T3
  | .a, (x, y, z) => (-x, push z x y, -z)
  | .b, (x, y, z) => (-x, -y, push x y z)
  | .c, (x, y, z) => (push y z x, -y, -z)
def co : P3 → T3 → Int
  | .a, (_, _, z) => z
  | .b, (x, _, _) => x
  | .c, (_, y, _) => y
def go : P3 → T3 → Int
  | .a, (x, _, _) => x
  | .b, (_, y, _) => y
  | .c, (_, _, z) => z
def opp : P3 → T3 → Int
  | .a, (_, y, _) => y
  | .b, (_, _, z) => z
  | .c, (x, _, _) => x
def nat (i : Int) : Int := if i < 0 then -i else i
theorem push_push (u v w : Int) : push (-u) (-v) (push u v w) = w := by
  unfold push
  have e : -u * -v = u * v := by rw [Int.neg_mul_neg]
  rw [e]
  by_cases h1 : 0 < u ∧ 0 < v
  · rw [if_pos h1, if_neg (by omega), if_pos (by omega)]; omega
  · by_cases h2 : u < 0 ∧ v < 0
    · rw [if_pos (show 0 < -u ∧ 0 < -v by omega), if_neg h1, if_pos h2]; omega
    · rw [if_neg (show ¬ (0 < -u ∧ 0 < -v) by omega), if_neg (show ¬ (-u < 0 ∧ -v < 0) by omega), if_neg h1, if_neg h2]
theorem drop_last {p : P3} : ∀ {l : List P3}, l.getLast? = some p → l = l.dropLast ++ [p]
  | [], h => by simp at h
  | [q], h => by
    have e : q = p := by simpa using h
    rw [e]
    rfl
  | q :: r :: l, h => by
    (rw [List.getLast?_cons_cons] at h)
    have ih := drop_last h
    show q :: r :: l = q :: (r :: l).dropLast ++ [p]
    rw [List.cons_append, ← ih]
theorem turn_turn (p : P3) (t : T3) : turn p (turn p t) = t := by
  obtain ⟨x, y, z⟩ := t
  cases p <;> simp only [turn, push_push, Int.neg_neg]
def walk (t : T3) (ps : List P3) : T3 := ps.foldl (fun t p => turn p t) t
theorem walk_nil (t : T3) : walk t [] = t := rfl
theorem walk_cons (t : T3) (p : P3) (ps : List P3) : walk t (p :: ps) = walk (turn p t) ps := rfl
theorem walk_append (t : T3) (ps qs : List P3) : walk t (ps ++ qs) = walk (walk t ps) qs := by
  unfold walk
  rw [List.foldl_append]
theorem walk_back : ∀ (ps : List P3) (t : T3), walk (walk t ps) ps.reverse = t
  | [], t => rfl
  | p :: ps, t => by
    rw [walk_cons, List.reverse_cons, walk_append, walk_back ps (turn p t), walk_cons, walk_nil, turn_turn]
/-- so many times a word -/
def many : Nat → List P3 → T3 → T3
  | 0, _, t => t
  | n + 1, ps, t => many n ps (walk t ps)
theorem many_add (ps : List P3) : ∀ (n m : Nat) (t : T3), many (n + m) ps t = many m ps (many n ps t)
  | 0, m, t => by rw [Nat.zero_add]; rfl
  | n + 1, m, t => by
    rw [show n + 1 + m = (n + m) + 1 by omega]
    show many (n + m) ps (walk t ps) = many m ps (many n ps (walk t ps))
    exact many_add ps n m _
theorem many_mul (ps : List P3) (m : Nat) : ∀ (n : Nat) (t : T3), (∀ s, many m ps s = s) → many (n * m) ps t = t
  | 0, t, _ => by rw [Nat.zero_mul]; rfl
  | n + 1, t, h => by rw [Nat.succ_mul, many_add, many_mul ps m n t h, h]
/-- a round that leads back to t falls out -/
theorem many_round (ps : List P3) (m : Nat) (t : T3) (h : many m ps t = t) (n : Nat) : many n ps t = many (n % m) ps t := by
  have hk : ∀ k, many (k * m) ps t = t := by
    intro k
    induction k with
    | zero => rw [Nat.zero_mul]; rfl
    | succ k ih => rw [Nat.succ_mul, many_add, ih, h]
  have e : n = (n / m) * m + n % m := by
    have := Nat.div_add_mod n m
    rw [Nat.mul_comm] at this
    exact this.symm
  have e2 : many n ps t = many ((n / m) * m + n % m) ps t := by rw [← e]
  rw [e2, many_add, hk]
theorem many_congr {ps qs : List P3} (h : ∀ t, walk t ps = walk t qs) : ∀ (n : Nat) (t : T3), many n ps t = many n qs t
  | 0, _ => rfl
  | n + 1, t => by
    show many n ps (walk t ps) = many n qs (walk t qs)
    rw [h, many_congr h n]
theorem many_around (w c : List P3) : ∀ (n : Nat) (t : T3), many n (w ++ c ++ w.reverse) t = walk (many n c (walk t w)) w.reverse
  | 0, t => (walk_back w t).symm
  | n + 1, t => by
    show many n (w ++ c ++ w.reverse) (walk t (w ++ c ++ w.reverse)) = walk (many n c (walk (walk t w) c)) w.reverse
    rw [many_around w c n, walk_append, walk_append]
    have e : ∀ s, walk (walk s w.reverse) w = s := fun s => by
      have := walk_back w.reverse s
      rw [List.reverse_reverse] at this
      exact this
    rw [e]
def rep (n : Nat) (ps : List P3) : List P3 := (List.replicate n ps).flatten
theorem rep_zero (ps : List P3) : rep 0 ps = [] := rfl
theorem rep_succ (n : Nat) (ps : List P3) : rep (n + 1) ps = ps ++ rep n ps := by
  unfold rep
  (rw [List.replicate_succ, List.flatten_cons])
theorem walk_rep (ps : List P3) : ∀ (n : Nat) (t : T3), walk t (rep n ps) = many n ps t
  | 0, _ => rfl
  | n + 1, t => by
    rw [rep_succ, walk_append, walk_rep ps n]
    rfl
theorem many_rep (ps : List P3) (k : Nat) : ∀ (n : Nat) (t : T3), many n (rep k ps) t = many (n * k) ps t
  | 0, t => by rw [Nat.zero_mul]; rfl
  | n + 1, t => by
    show many n (rep k ps) (walk t (rep k ps)) = _
    rw [many_rep ps k n, walk_rep, ← many_add, Nat.succ_mul, Nat.add_comm]
theorem rep_length (n : Nat) (ps : List P3) : (rep n ps).length = n * ps.length := by
  induction n with
  | zero => simp [rep_zero]
  | succ n ih => rw [rep_succ, List.length_append, ih, Nat.succ_mul, Nat.add_comm]
theorem many_even (p : P3) (n : Nat) (t : T3) : many n [p] t = many (n % 2) [p] t :=
  many_round [p] 2 t (turn_turn p t) n
/-! ### words without doubles -/
def red : List P3 → Prop
  | p :: q :: r => p ≠ q ∧ red (q :: r)
  | _ => True
theorem red_tail {p : P3} {r : List P3} (h : red (p :: r)) : red r := by
  cases r with
  | nil => trivial
  | cons q r => exact h.2
theorem red_append : ∀ {u v : List P3}, red (u ++ v) ↔ red u ∧ red v ∧ ∀ p q, u.getLast? = some p → v.head? = some q → p ≠ q
  | [], v => by simp [red]
  | [p], v => by
    cases v with
    | nil => simp [red]
    | cons q r =>
      show (p ≠ q ∧ red (q :: r)) ↔ (red [p] ∧ red (q :: r) ∧ ∀ p' q', [p].getLast? = some p' → (q :: r).head? = some q' → p' ≠ q')
      simp [red]
      exact And.comm
  | p :: q :: r, v => by
    have ih := red_append (u := q :: r) (v := v)
    show (p ≠ q ∧ red ((q :: r) ++ v)) ↔ ((p ≠ q ∧ red (q :: r)) ∧ red v ∧ ∀ p' q', (p :: q :: r).getLast? = some p' → v.head? = some q' → p' ≠ q')
    rw [ih, List.getLast?_cons_cons]
    exact ⟨fun ⟨h1, h2, h3, h4⟩ => ⟨⟨h1, h2⟩, h3, h4⟩, fun ⟨⟨h1, h2⟩, h3, h4⟩ => ⟨h1, h2, h3, h4⟩⟩
theorem red_rev : ∀ {u : List P3}, red u → red u.reverse
  | [], _ => trivial
  | p :: u, h => by
    rw [List.reverse_cons]
    refine red_append.mpr ⟨red_rev (red_tail h), trivial, fun x y hx hy => ?_⟩
    have e : p = y := by simpa using hy
    subst e
    rw [List.getLast?_reverse] at hx
    cases u with
    | nil => simp at hx
    | cons q r =>
      have e : q = x := by simpa using hx
      subst e
      exact fun z => h.1 z.symm
/-- the kept letters, the last one last -/
def keep (kept : List P3) (p : P3) : List P3 := if kept.getLast? = some p then kept.dropLast else kept ++ [p]
theorem keep_red {kept : List P3} {p : P3} (h : red kept) : red (keep kept p) := by
  unfold keep
  split
  · rename_i e
    have e2 : kept = kept.dropLast ++ [p] := drop_last e
    rw [e2] at h
    exact (red_append.mp h).1
  · rename_i e
    refine red_append.mpr ⟨h, trivial, fun x y hx hy z => ?_⟩
    have ey : p = y := by simpa using hy
    subst ey
    subst z
    exact e hx
theorem keep_walk {kept : List P3} {p : P3} (t : T3) : walk t (keep kept p) = turn p (walk t kept) := by
  unfold keep
  split
  · rename_i e
    have e2 : kept = kept.dropLast ++ [p] := drop_last e
    have e3 : walk t kept = turn p (walk t kept.dropLast) := by
      rw [show walk t kept = walk t (kept.dropLast ++ [p]) by rw [← e2], walk_append]
      rfl
    rw [e3, turn_turn]
  · rw [walk_append]
    rfl
def keeps (ps : List P3) : List P3 := ps.foldl keep []
theorem keeps_red (ps : List P3) : red (keeps ps) := by
  have : ∀ (ps k : List P3), red k → red (ps.foldl keep k) := by
    intro ps
    induction ps with
    | nil => intro k h; exact h
    | cons p ps ih => intro k h; exact ih _ (keep_red h)
  exact this ps [] trivial
theorem keeps_walk (ps : List P3) (t : T3) : walk t (keeps ps) = walk t ps := by
  have : ∀ (ps k : List P3), walk t (ps.foldl keep k) = walk (walk t k) ps := by
    intro ps
    induction ps with
    | nil => intro k; rfl
    | cons p ps ih =>
      intro k
      show walk t (ps.foldl keep (keep k p)) = walk (turn p (walk t k)) ps
      rw [ih, keep_walk]
  exact this ps []
theorem keeps_length (ps : List P3) : (keeps ps).length ≤ ps.length := by
  have : ∀ (ps k : List P3), (ps.foldl keep k).length ≤ k.length + ps.length := by
    intro ps
    induction ps with
    | nil => intro k; exact Nat.le_refl _
    | cons p ps ih =>
      intro k
      have h1 := ih (keep k p)
      have h2 : (keep k p).length ≤ k.length + 1 := by
        unfold keep
        split
        · rw [List.length_dropLast]; omega
        · rw [List.length_append]; exact Nat.le_refl _
      show (ps.foldl keep (keep k p)).length ≤ k.length + (ps.length + 1)
      omega
  have h := this ps []
  simpa [keeps] using h
/-! ### beyond a bound, off the foot -/
def ring : T3 → Prop
  | (x, y, z) => (0 < x ∧ 0 < y ∧ 0 < z) ∨ (x < 0 ∧ y < 0 ∧ z < 0)
def Beyond (G : Int) (p : P3) (t : T3) : Prop := G < nat (opp p t) ∧ ring t ∧ 2 ≤ nat (co p t) ∧ 2 ≤ nat (go p t) ∧ nat (co p t) * nat (go p t) < 2 * nat (opp p t)
theorem grow {G c d g : Int} (hG : G < g) (hc : 2 ≤ c) (hd : 2 ≤ d) (h : c * d < 2 * g) : G < d * g - c ∧ d * g < 2 * (d * g - c) ∧ 0 < d * g - c := by
  have h1 : c * 2 ≤ c * d := Int.mul_le_mul_of_nonneg_left hd (by omega)
  have h2 : 2 * g ≤ d * g := Int.mul_le_mul_of_nonneg_right hd (by omega)
  omega
theorem nat_pos {i : Int} (h : 0 < i) : nat i = i := by unfold nat; rw [if_neg (by omega)]
theorem nat_neg' {i : Int} (h : i < 0) : nat i = -i := by unfold nat; rw [if_pos h]
theorem push_pos {u v w : Int} (hu : 0 < u) (hv : 0 < v) : push u v w = w - u * v := by unfold push; rw [if_pos ⟨hu, hv⟩]
theorem push_neg {u v w : Int} (hu : u < 0) (hv : v < 0) : push u v w = w + u * v := by unfold push; rw [if_neg (by omega), if_pos ⟨hu, hv⟩]
/-- the three numbers at a place -/
def tri (p : P3) (u v w : Int) : T3 := match p with
  | .a => (v, w, u)
  | .b => (u, v, w)
  | .c => (w, u, v)
theorem tri_of (p : P3) (t : T3) : t = tri p (co p t) (go p t) (opp p t) := by
  obtain ⟨x, y, z⟩ := t
  cases p <;> rfl
theorem turn_tri (p : P3) (u v w : Int) : turn p (tri p u v w) = tri p (-u) (-v) (push u v w) := by cases p <;> rfl
def nxt : P3 → P3
  | .a => .b
  | .b => .c
  | .c => .a
theorem other {p q : P3} (h : p ≠ q) : q = nxt p ∨ p = nxt q := by
  cases p <;> cases q <;> first | exact absurd rfl h | exact .inl rfl | exact .inr rfl
theorem tri_nxt (p : P3) (u v w : Int) : tri p u v w = tri (nxt p) v w u := by cases p <;> rfl
theorem ring_tri (p : P3) (u v w : Int) : ring (tri p u v w) ↔ (0 < u ∧ 0 < v ∧ 0 < w) ∨ (u < 0 ∧ v < 0 ∧ w < 0) := by
  cases p <;> simp only [tri, ring] <;> omega
theorem beyond_tri (G : Int) (p : P3) (u v w : Int) : Beyond G p (tri p u v w) ↔ G < nat w ∧ ((0 < u ∧ 0 < v ∧ 0 < w) ∨ (u < 0 ∧ v < 0 ∧ w < 0)) ∧ 2 ≤ nat u ∧ 2 ≤ nat v ∧ nat u * nat v < 2 * nat w := by
  unfold Beyond
  rw [ring_tri]
  cases p <;> rfl
theorem beyond_next {G : Int} {p : P3} {u v w : Int} (h : Beyond G p (tri p u v w)) : Beyond G (nxt p) (turn (nxt p) (tri p u v w)) := by
  rw [tri_nxt, turn_tri, beyond_tri]
  obtain ⟨h1, h2, h3, h4, h5⟩ := (beyond_tri G p u v w).mp h
  rcases h2 with ⟨a1, a2, a3⟩ | ⟨a1, a2, a3⟩
  · rw [nat_pos a1, nat_pos a2] at h5
    rw [nat_pos a1] at h3
    rw [nat_pos a2] at h4
    rw [nat_pos a3] at h1 h5
    obtain ⟨g1, g2, g3⟩ := grow h1 h3 h4 h5
    rw [push_pos a2 a3, nat_neg' (show u - v * w < 0 by omega), nat_neg' (show -v < 0 by omega), nat_neg' (show -w < 0 by omega), Int.neg_neg, Int.neg_neg]
    refine ⟨by omega, .inr ⟨by omega, by omega, by omega⟩, h4, ?_, by omega⟩
    have : 2 * 2 ≤ u * v := Int.mul_le_mul h3 h4 (by omega) (by omega)
    omega
  · rw [nat_neg' a1, nat_neg' a2] at h5
    rw [nat_neg' a1] at h3
    rw [nat_neg' a2] at h4
    rw [nat_neg' a3] at h1 h5
    obtain ⟨g1, g2, g3⟩ := grow h1 h3 h4 h5
    rw [Int.neg_mul_neg] at g1 g2 g3
    rw [push_neg a2 a3, nat_pos (show 0 < u + v * w by omega), nat_pos (show 0 < -v by omega), nat_pos (show 0 < -w by omega)]
    refine ⟨by omega, .inl ⟨by omega, by omega, by omega⟩, h4, ?_, ?_⟩
    · have : 2 * 2 ≤ -u * -v := Int.mul_le_mul h3 h4 (by omega) (by omega)
      omega
    · rw [Int.neg_mul_neg]
      omega
theorem beyond_prev {G : Int} {p : P3} {u v w : Int} (h : Beyond G (nxt p) (tri (nxt p) u v w)) : Beyond G p (turn p (tri (nxt p) u v w)) := by
  have e : tri (nxt p) u v w = tri p w u v := by cases p <;> rfl
  rw [e, turn_tri, beyond_tri]
  obtain ⟨h1, h2, h3, h4, h5⟩ := (beyond_tri G (nxt p) u v w).mp h
  rw [Int.mul_comm (nat u)] at h5
  rcases h2 with ⟨a1, a2, a3⟩ | ⟨a1, a2, a3⟩
  · rw [nat_pos a1, nat_pos a2] at h5
    rw [nat_pos a1] at h3
    rw [nat_pos a2] at h4
    rw [nat_pos a3] at h1 h5
    obtain ⟨g1, g2, g3⟩ := grow h1 h4 h3 h5
    rw [Int.mul_comm] at g1 g2 g3
    rw [push_pos a3 a1, nat_neg' (show v - w * u < 0 by omega), nat_neg' (show -u < 0 by omega), nat_neg' (show -w < 0 by omega), Int.neg_neg, Int.neg_neg]
    refine ⟨by omega, .inr ⟨by omega, by omega, by omega⟩, ?_, h3, by omega⟩
    have : 2 * 2 ≤ v * u := Int.mul_le_mul h4 h3 (by omega) (by omega)
    omega
  · rw [nat_neg' a1, nat_neg' a2] at h5
    rw [nat_neg' a1] at h3
    rw [nat_neg' a2] at h4
    rw [nat_neg' a3] at h1 h5
    obtain ⟨g1, g2, g3⟩ := grow h1 h4 h3 h5
    rw [Int.neg_mul_neg, Int.mul_comm] at g1 g2 g3
    rw [push_neg a3 a1, nat_pos (show 0 < v + w * u by omega), nat_pos (show 0 < -u by omega), nat_pos (show 0 < -w by omega)]
    refine ⟨by omega, .inl ⟨by omega, by omega, by omega⟩, ?_, h3, ?_⟩
    · have : 2 * 2 ≤ -v * -u := Int.mul_le_mul h4 h3 (by omega) (by omega)
      omega
    · rw [Int.neg_mul_neg]
      omega
theorem beyond_turn {G : Int} {p q : P3} {t : T3} (h : Beyond G p t) (n : p ≠ q) : Beyond G q (turn q t) := by
  rcases other n with e | e
  · subst e
    rw [tri_of p t] at h ⊢
    exact beyond_next h
  · subst e
    rw [tri_of (nxt q) t] at h ⊢
    exact beyond_prev h
theorem beyond_walk {G : Int} : ∀ {u : List P3} {p : P3} {t : T3}, Beyond G p t → red (p :: u) → ∃ q, Beyond G q (walk t u)
  | [], p, _, h, _ => ⟨p, h⟩
  | q :: u, p, t, h, r => beyond_walk (u := u) (p := q) (t := turn q t) (beyond_turn h r.1) r.2
/-- the greatest size -/
def big : T3 → Int
  | (x, y, z) => if nat x ≤ nat y then (if nat y ≤ nat z then nat z else nat y) else (if nat x ≤ nat z then nat z else nat x)
theorem big_le {t : T3} {G : Int} : big t ≤ G ↔ nat t.1 ≤ G ∧ nat t.2.1 ≤ G ∧ nat t.2.2 ≤ G := by
  obtain ⟨x, y, z⟩ := t
  simp only [big]
  split <;> split <;> omega
theorem beyond_big {G : Int} {p : P3} {t : T3} (h : Beyond G p t) : G < big t := by
  obtain ⟨x, y, z⟩ := t
  have h1 := h.1
  cases p <;> simp only [opp] at h1 <;> simp only [big] <;> split <;> split <;> omega
end At

namespace At
/-! ### even steps: turns at two places in turn, two arrows between them -/
theorem opp_other {p q : P3} (h : p ≠ q) (t : T3) : opp q (turn p t) = -opp q t := by
  obtain ⟨x, y, z⟩ := t
  cases p <;> cases q <;> first | exact absurd rfl h | rfl
theorem push_comm (u v w : Int) : push u v w = push v u w := by
  unfold push
  rw [Int.mul_comm u v]
  by_cases h1 : 0 < u ∧ 0 < v
  · rw [if_pos h1, if_pos ⟨h1.2, h1.1⟩]
  · rw [if_neg h1, if_neg (show ¬ (0 < v ∧ 0 < u) from fun h => h1 ⟨h.2, h.1⟩)]
    by_cases h2 : u < 0 ∧ v < 0
    · rw [if_pos h2, if_pos ⟨h2.2, h2.1⟩]
    · rw [if_neg h2, if_neg (show ¬ (v < 0 ∧ u < 0) from fun h => h2 ⟨h.2, h.1⟩)]
theorem opp_same {p q r : P3} (h1 : p ≠ q) (h2 : q ≠ r) (h3 : p ≠ r) (t : T3) : opp p (turn p t) = push (opp q t) (opp r t) (opp p t) := by
  obtain ⟨x, y, z⟩ := t
  cases p <;> cases q <;> cases r <;> first | exact absurd rfl h1 | exact absurd rfl h2 | exact absurd rfl h3 | rfl | exact push_comm _ _ _
theorem opp_ext {p q r : P3} (h1 : p ≠ q) (h2 : q ≠ r) (h3 : p ≠ r) {t s : T3} (a : opp p t = opp p s) (b : opp q t = opp q s) (c : opp r t = opp r s) : t = s := by
  obtain ⟨x, y, z⟩ := t
  obtain ⟨x', y', z'⟩ := s
  cases p <;> cases q <;> cases r <;> first | exact absurd rfl h1 | exact absurd rfl h2 | exact absurd rfl h3 | (simp only [opp] at a b c; rw [a, b, c])
theorem even_one {p q r : P3} (h1 : p ≠ q) (h2 : q ≠ r) (h3 : p ≠ r) {t : T3} {s A B : Int} (hs : s = 1 ∨ s = -1) (tr : opp r t = 2 * s) (tp : opp p t = s * A) (tq : opp q t = s * B) (hB : 0 < B) (hC : 0 < 2 * B - A) :
    opp r (walk t [p, q]) = 2 * s ∧ opp p (walk t [p, q]) = s * (2 * B - A) ∧ opp q (walk t [p, q]) = s * (3 * B - 2 * A) := by
  have a1 : opp p (turn p t) = -(s * (2 * B - A)) := by
    rw [opp_same h1 h2 h3, tr, tp, tq]
    rcases hs with rfl | rfl
    · rw [push_pos (by omega) (by omega)]; omega
    · rw [push_neg (by omega) (by omega)]; omega
  have a2 : opp q (turn p t) = -(s * B) := by rw [opp_other h1, tq]
  have a3 : opp r (turn p t) = -(2 * s) := by rw [opp_other h3, tr]
  refine ⟨?_, ?_, ?_⟩
  · show opp r (turn q (turn p t)) = _
    rw [opp_other h2, a3, Int.neg_neg]
  · show opp p (turn q (turn p t)) = _
    rw [opp_other (fun z => h1 z.symm), a1, Int.neg_neg]
  · show opp q (turn q (turn p t)) = _
    rw [opp_same (fun z => h1 z.symm) h3 h2, a1, a2, a3]
    rcases hs with rfl | rfl
    · rw [push_neg (by omega) (by omega)]; omega
    · rw [push_pos (by omega) (by omega)]; omega
theorem even_many {p q r : P3} (h1 : p ≠ q) (h2 : q ≠ r) (h3 : p ≠ r) {s : Int} (hs : s = 1 ∨ s = -1) : ∀ (n : Nat) (t : T3) (A B : Int), opp r t = 2 * s → opp p t = s * A → opp q t = s * B →
    (∀ k : Nat, k < n → 0 < B + 2 * (k : Int) * (B - A) ∧ 0 < B + (2 * (k : Int) + 1) * (B - A)) →
    opp r (many n [p, q] t) = 2 * s ∧ opp p (many n [p, q] t) = s * (A + 2 * (n : Int) * (B - A)) ∧ opp q (many n [p, q] t) = s * (B + 2 * (n : Int) * (B - A))
  | 0, t, A, B, tr, tp, tq, _ => by
    refine ⟨tr, ?_, ?_⟩
    · show opp p t = _
      rw [tp]; simp
    · show opp q t = _
      rw [tq]; simp
  | n + 1, t, A, B, tr, tp, tq, h => by
    have h0 := h 0 (Nat.succ_pos n)
    have hB : 0 < B := by have := h0.1; simpa using this
    have hC : 0 < 2 * B - A := by have := h0.2; simp at this; omega
    obtain ⟨e1, e2, e3⟩ := even_one h1 h2 h3 hs tr tp tq hB hC
    have ed : (3 * B - 2 * A) - (2 * B - A) = B - A := by omega
    have ih := even_many h1 h2 h3 hs n (walk t [p, q]) (2 * B - A) (3 * B - 2 * A) e1 e2 e3 (fun k hk => by
      have := h (k + 1) (Nat.succ_lt_succ hk)
      rw [ed]
      have c1 : ((k + 1 : Nat) : Int) = (k : Int) + 1 := rfl
      rw [c1] at this
      have x1 : 2 * ((k : Int) + 1) * (B - A) = 2 * (k : Int) * (B - A) + 2 * (B - A) := by rw [Int.mul_add, Int.add_mul]; rfl
      have x2 : (2 * ((k : Int) + 1) + 1) * (B - A) = (2 * (k : Int) + 1) * (B - A) + 2 * (B - A) := by
        rw [show 2 * ((k : Int) + 1) + 1 = (2 * (k : Int) + 1) + 2 by omega, Int.add_mul]
      rw [x1, x2] at this
      omega)
    rw [ed] at ih
    have c1 : ((n + 1 : Nat) : Int) = (n : Int) + 1 := rfl
    have x1 : 2 * ((n : Int) + 1) * (B - A) = 2 * (n : Int) * (B - A) + 2 * (B - A) := by rw [Int.mul_add, Int.add_mul]; rfl
    refine ⟨ih.1, ?_, ?_⟩
    · show opp p (many n [p, q] (walk t [p, q])) = _
      rw [ih.2.1, c1, x1]
      congr 1
      omega
    · show opp q (many n [p, q] (walk t [p, q])) = _
      rw [ih.2.2, c1, x1]
      congr 1
      omega
/-- so many times [p, q] go evenly from t -/
def EvenOk (t : T3) (ps : List P3) (n : Nat) : Prop := ∃ p q r s A B, ps = [p, q] ∧ p ≠ q ∧ q ≠ r ∧ p ≠ r ∧ (s = 1 ∨ s = -1) ∧ opp r t = 2 * s ∧ opp p t = s * A ∧ opp q t = s * B ∧
  ∀ k : Nat, k < n → 0 < B + 2 * (k : Int) * (B - A) ∧ 0 < B + (2 * (k : Int) + 1) * (B - A)
/-- what behind_even reckons -/
theorem even_end {t : T3} {ps : List P3} {n : Nat} (h : EvenOk t ps n) : ∃ p q r, ps = [p, q] ∧ p ≠ q ∧ q ≠ r ∧ p ≠ r ∧ opp p (many n ps t) = opp p t + 2 * (n : Int) * (opp q t - opp p t) ∧ opp q (many n ps t) = opp q t + 2 * (n : Int) * (opp q t - opp p t) ∧ opp r (many n ps t) = opp r t := by
  obtain ⟨p, q, r, s, A, B, rfl, h1, h2, h3, hs, tr, tp, tq, hk⟩ := h
  obtain ⟨e1, e2, e3⟩ := even_many h1 h2 h3 hs n t A B tr tp tq hk
  refine ⟨p, q, r, rfl, h1, h2, h3, ?_, ?_, by rw [e1, tr]⟩
  · rw [e2, tp, tq]
    rcases hs with rfl | rfl
    · simp only [Int.one_mul]
    · simp only [Int.neg_mul, Int.one_mul]
      rw [show -B - -A = -(B - A) by omega, Int.mul_neg]
      omega
  · rw [e3, tp, tq]
    rcases hs with rfl | rfl
    · simp only [Int.one_mul]
    · simp only [Int.neg_mul, Int.one_mul]
      rw [show -B - -A = -(B - A) by omega, Int.mul_neg]
      omega
/-- what even_repeats reckons -/
theorem even_ok {p q r : P3} (h1 : p ≠ q) (h2 : q ≠ r) (h3 : p ≠ r) {t : T3} (hr : ring t) (htie : nat (opp r t) = 2) {j : Int} (hj : 0 < j)
    (hc : 0 ≤ nat (opp q t) - nat (opp p t) ∨ j ≤ (nat (opp q t) - 1) / -(nat (opp q t) - nat (opp p t)) / 2) : EvenOk t [p, q] j.toNat := by
  obtain ⟨s, hs, e⟩ : ∃ s : Int, (s = 1 ∨ s = -1) ∧ ∀ x : P3, opp x t = s * nat (opp x t) ∧ 0 < nat (opp x t) := by
    obtain ⟨x, y, z⟩ := t
    rcases hr with ⟨a1, a2, a3⟩ | ⟨a1, a2, a3⟩
    · refine ⟨1, .inl rfl, fun w => ?_⟩
      cases w <;> simp only [opp] <;> rw [nat_pos (by assumption)] <;> omega
    · refine ⟨-1, .inr rfl, fun w => ?_⟩
      cases w <;> simp only [opp] <;> rw [nat_neg' (by assumption)] <;> omega
  refine ⟨p, q, r, s, nat (opp p t), nat (opp q t), rfl, h1, h2, h3, hs, ?_, (e p).1, (e q).1, fun k hk => ?_⟩
  · rw [(e r).1, htie, Int.mul_comm]
  · have hB := (e q).2
    generalize nat (opp q t) = B at hc hB ⊢
    generalize nat (opp p t) = A at hc ⊢
    have hk' : (k : Int) < j := by omega
    rcases hc with hd | hd
    · have g1 : 0 ≤ 2 * (k : Int) * (B - A) := Int.mul_nonneg (by omega) hd
      have g2 : 0 ≤ (2 * (k : Int) + 1) * (B - A) := Int.mul_nonneg (by omega) hd
      omega
    · by_cases hd0 : 0 ≤ B - A
      · have g1 : 0 ≤ 2 * (k : Int) * (B - A) := Int.mul_nonneg (by omega) hd0
        have g2 : 0 ≤ (2 * (k : Int) + 1) * (B - A) := Int.mul_nonneg (by omega) hd0
        omega
      · have f1 : j * 2 ≤ (B - 1) / -(B - A) := (Int.le_ediv_iff_mul_le (by omega)).mp hd
        have f2 : j * 2 * -(B - A) ≤ B - 1 := (Int.le_ediv_iff_mul_le (by omega)).mp f1
        have f3 : (2 * (k : Int) + 1) * -(B - A) ≤ j * 2 * -(B - A) := Int.mul_le_mul_of_nonneg_right (by omega) (by omega)
        have f4 : 2 * (k : Int) * -(B - A) ≤ j * 2 * -(B - A) := Int.mul_le_mul_of_nonneg_right (by omega) (by omega)
        rw [Int.mul_neg] at f2 f3 f4
        rw [Int.mul_neg] at f3 f4
        omega
/-! ### a repeated word that is cyclically without doubles -/
def cyc (c : List P3) : Prop := red c ∧ ∀ p q, c.getLast? = some p → c.head? = some q → p ≠ q
theorem rep_head (c : List P3) (n : Nat) (h : 0 < n) : (rep n c).head? = c.head? := by
  cases n with
  | zero => omega
  | succ n =>
    rw [rep_succ]
    cases c with
    | nil =>
      induction n with
      | zero => rfl
      | succ n ih => rw [rep_succ, List.nil_append]; exact ih (Nat.succ_pos n)
    | cons x r => rfl
theorem rep_succ' (n : Nat) (ps : List P3) : rep (n + 1) ps = rep n ps ++ ps := by
  induction n with
  | zero => rw [rep_succ, rep_zero, List.append_nil, List.nil_append]
  | succ n ih => rw [rep_succ, ih, ← List.append_assoc, ← rep_succ, ih]
theorem last_app {u v : List P3} (h : v ≠ []) : (u ++ v).getLast? = v.getLast? := by
  rw [List.getLast?_append]
  cases e : v.getLast? with
  | none => exact absurd (List.getLast?_eq_none_iff.mp e) h
  | some x => rfl
theorem rep_last (c : List P3) (n : Nat) (h : 0 < n) (hc : c ≠ []) : (rep n c).getLast? = c.getLast? := by
  cases n with
  | zero => omega
  | succ n => rw [rep_succ', last_app hc]
theorem cyc_rep {c : List P3} (h : cyc c) : ∀ n : Nat, red (rep n c)
  | 0 => trivial
  | n + 1 => by
    rw [rep_succ]
    refine red_append.mpr ⟨h.1, cyc_rep h n, fun p q hp hq => ?_⟩
    cases n with
    | zero => rw [rep_zero] at hq; simp at hq
    | succ n => rw [rep_head c (n + 1) (Nat.succ_pos n)] at hq; exact h.2 p q hp hq
theorem cyc_root {r : List P3} {k : Nat} (hk : 0 < k) (hr : r ≠ []) (h : cyc (rep k r)) : cyc r := by
  refine ⟨?_, fun p q hp hq => ?_⟩
  · have h1 := h.1
    cases k with
    | zero => omega
    | succ k => rw [rep_succ] at h1; exact (red_append.mp h1).1
  · exact h.2 p q (by rw [rep_last r k hk hr]; exact hp) (by rw [rep_head r k hk]; exact hq)
/-- the whole way: there, so often the core, and back -/
theorem whole_red {w c : List P3} (h : red (w ++ c ++ w.reverse)) (hc : cyc c) (hn : c ≠ []) (n : Nat) (h0 : 0 < n) : red (w ++ rep n c ++ w.reverse) := by
  obtain ⟨h1, h2, h3⟩ := red_append.mp h
  obtain ⟨h4, h5, h6⟩ := red_append.mp h1
  have lc : (w ++ rep n c).getLast? = (w ++ c).getLast? := by
    have e1 : rep n c ≠ [] := fun z => by
      have := rep_last c n h0 hn
      rw [z] at this
      have hne := (List.getLast?_eq_none_iff (xs := c)).mp this.symm
      exact hn hne
    rw [last_app e1, last_app hn, rep_last c n h0 hn]
  refine red_append.mpr ⟨red_append.mpr ⟨h4, cyc_rep hc n, fun p q hp hq => ?_⟩, h2, fun p q hp hq => ?_⟩
  · rw [rep_head c n h0] at hq
    exact h6 p q hp hq
  · rw [lc] at hp
    exact h3 p q hp hq
/-- beyond somewhere on a way without doubles: beyond at its end -/
theorem beyond_end {G : Int} {t : T3} {pre post : List P3} {p : P3} (h : Beyond G p (walk t (pre ++ [p]))) (r : red (pre ++ p :: post)) : G < big (walk t (pre ++ p :: post)) := by
  have e : pre ++ p :: post = (pre ++ [p]) ++ post := by rw [List.append_assoc]; rfl
  obtain ⟨q, hq⟩ := beyond_walk h (red_append.mp r).2.1
  rw [e, walk_append]
  exact beyond_big hq
/-- what behind_way tells -/
def WayEnd (G : Int) (t : T3) (ps : List P3) : Option T3 → Prop
  | some s => s = walk t ps
  | none => ∃ pre p post, ps = pre ++ p :: post ∧ Beyond G p (walk t (pre ++ [p]))
end At

namespace At
/-! ### the mark stays; sizes stay within a bound -/
theorem nat_nonneg (i : Int) : 0 ≤ nat i := by unfold nat; split <;> omega
theorem nat_nat (i : Int) : nat (nat i) = nat i := by
  have := nat_nonneg i
  rw [show nat (nat i) = if nat i < 0 then -nat i else nat i from rfl, if_neg (by omega)]
theorem nat_neg (i : Int) : nat (-i) = nat i := by unfold nat; split <;> split <;> omega
instance (t : T3) : Decidable (ring t) := by
  obtain ⟨x, y, z⟩ := t
  unfold ring
  exact inferInstance
def mk (t : T3) : Int := if ring t then t.1 * t.1 + t.2.1 * t.2.1 + t.2.2 * t.2.2 - nat t.1 * nat t.2.1 * nat t.2.2 else t.1 * t.1 + t.2.1 * t.2.1 + t.2.2 * t.2.2 + nat t.1 * nat t.2.1 * nat t.2.2
theorem mk_tri (p : P3) (u v w : Int) : mk (tri p u v w) = if (0 < u ∧ 0 < v ∧ 0 < w) ∨ (u < 0 ∧ v < 0 ∧ w < 0) then u * u + v * v + w * w - nat u * nat v * nat w else u * u + v * v + w * w + nat u * nat v * nat w := by
  have e := ring_tri p u v w
  unfold mk
  by_cases h : (0 < u ∧ 0 < v ∧ 0 < w) ∨ (u < 0 ∧ v < 0 ∧ w < 0)
  · rw [if_pos (e.mpr h), if_pos h]
    cases p
    · show v * v + w * w + u * u - nat v * nat w * nat u = _
      rw [show nat v * nat w * nat u = nat u * nat v * nat w by rw [Int.mul_comm (nat v * nat w), ← Int.mul_assoc]]
      omega
    · rfl
    · show w * w + u * u + v * v - nat w * nat u * nat v = _
      rw [show nat w * nat u * nat v = nat u * nat v * nat w by rw [Int.mul_assoc, Int.mul_comm (nat w)]]
      omega
  · rw [if_neg (fun z => h (e.mp z)), if_neg h]
    cases p
    · show v * v + w * w + u * u + nat v * nat w * nat u = _
      rw [show nat v * nat w * nat u = nat u * nat v * nat w by rw [Int.mul_comm (nat v * nat w), ← Int.mul_assoc]]
      omega
    · rfl
    · show w * w + u * u + v * v + nat w * nat u * nat v = _
      rw [show nat w * nat u * nat v = nat u * nat v * nat w by rw [Int.mul_assoc, Int.mul_comm (nat w)]]
      omega
theorem mk_pos (p : P3) {u v : Int} (w : Int) (hu : 0 < u) (hv : 0 < v) : mk (tri p u v w) = u * u + v * v + w * w - u * v * w := by
  rw [mk_tri, nat_pos hu, nat_pos hv]
  by_cases h : 0 < w
  · rw [if_pos (.inl ⟨hu, hv, h⟩), nat_pos h]
  · rw [if_neg (by omega)]
    have e : nat w = -w := by unfold nat; split <;> omega
    rw [e, Int.mul_neg]
    omega
theorem mk_neg (p : P3) {u v : Int} (w : Int) (hu : u < 0) (hv : v < 0) : mk (tri p u v w) = u * u + v * v + w * w + u * v * w := by
  rw [mk_tri, nat_neg' hu, nat_neg' hv]
  rw [Int.neg_mul_neg]
  by_cases h : w < 0
  · rw [if_pos (.inr ⟨hu, hv, h⟩), nat_neg' h, Int.mul_neg]
    omega
  · rw [if_neg (by omega)]
    have e : nat w = w := by unfold nat; split <;> omega
    rw [e]
theorem mk_other (p : P3) {u v : Int} (w : Int) (h1 : ¬ (0 < u ∧ 0 < v)) (h2 : ¬ (u < 0 ∧ v < 0)) : mk (tri p u v w) = u * u + v * v + w * w + nat u * nat v * nat w := by
  rw [mk_tri, if_neg (by omega)]
theorem mk_turn (p : P3) (t : T3) : mk (turn p t) = mk t := by
  rw [tri_of p t]
  generalize co p t = u
  generalize go p t = v
  generalize opp p t = w
  rw [turn_tri]
  by_cases h1 : 0 < u ∧ 0 < v
  · rw [push_pos h1.1 h1.2, mk_pos p w h1.1 h1.2, mk_neg p _ (show -u < 0 by omega) (show -v < 0 by omega), Int.neg_mul_neg, Int.neg_mul_neg, Int.neg_mul_neg]
    have e : (w - u * v) * (w - u * v) + u * v * (w - u * v) = w * w - u * v * w := by
      have : (w - u * v) * (w - u * v) + u * v * (w - u * v) = ((w - u * v) + u * v) * (w - u * v) := by rw [Int.add_mul]
      rw [this, Int.sub_add_cancel, Int.mul_sub, Int.mul_comm w (u * v)]
    omega
  · by_cases h2 : u < 0 ∧ v < 0
    · rw [push_neg h2.1 h2.2, mk_neg p w h2.1 h2.2, mk_pos p _ (show 0 < -u by omega) (show 0 < -v by omega), Int.neg_mul_neg, Int.neg_mul_neg, Int.neg_mul_neg]
      have e : (w + u * v) * (w + u * v) - u * v * (w + u * v) = w * w + u * v * w := by
        have : (w + u * v) * (w + u * v) - u * v * (w + u * v) = ((w + u * v) - u * v) * (w + u * v) := by rw [Int.sub_mul]
        rw [this, Int.add_sub_cancel, Int.mul_add, Int.mul_comm w (u * v)]
      omega
    · have e : push u v w = w := by unfold push; rw [if_neg h1, if_neg h2]
      rw [e, mk_other p w h1 h2, mk_other p w (by omega) (by omega), Int.neg_mul_neg, Int.neg_mul_neg, nat_neg, nat_neg]
theorem mk_walk : ∀ (ps : List P3) (t : T3), mk (walk t ps) = mk t
  | [], _ => rfl
  | p :: ps, t => by rw [walk_cons, mk_walk ps, mk_turn]
theorem sq_le {a b : Int} (ha : 0 ≤ a) (hb : 0 ≤ b) (h : a * a ≤ b * b) : a ≤ b := by
  by_cases z : a ≤ b
  · exact z
  · have h1 : b + 1 ≤ a := by omega
    have h2 : (b + 1) * (b + 1) ≤ a * a := Int.mul_le_mul h1 h1 (by omega) ha
    have h3 : (b + 1) * (b + 1) = b * b + 2 * b + 1 := by rw [Int.add_mul, Int.mul_add]; omega
    omega
theorem nat_sq (i : Int) : nat i * nat i = i * i := by unfold nat; split <;> simp [Int.neg_mul_neg]
theorem sq_nonneg (i : Int) : 0 ≤ i * i := by rw [← nat_sq]; exact Int.mul_nonneg (nat_nonneg i) (nat_nonneg i)
/-- in a ring with a size 1, three quarters of the square are at most the mark -/
theorem one_ring {v w : Int} : 3 * (w * w) ≤ 4 * (1 * 1 + v * v + w * w - 1 * v * w) := by
  have h := sq_nonneg (2 * v - w)
  have e : (2 * v - w) * (2 * v - w) = 4 * (v * v) - 4 * (v * w) + w * w := by
    rw [Int.sub_mul, Int.mul_sub, Int.mul_sub]
    have e1 : 2 * v * (2 * v) = 4 * (v * v) := by grind
    have e2 : 2 * v * w = 2 * (v * w) := Int.mul_assoc ..
    have e3 : w * (2 * v) = 2 * (v * w) := by rw [Int.mul_comm, e2]
    omega
  rw [Int.one_mul, Int.one_mul]
  omega
theorem big_tri {p : P3} {u v w B : Int} : big (tri p u v w) ≤ B ↔ nat u ≤ B ∧ nat v ≤ B ∧ nat w ≤ B := by
  cases p <;> rw [big_le] <;> simp only [tri] <;> omega
theorem big_at {p : P3} {t : T3} {B : Int} (h : big t ≤ B) : nat (co p t) ≤ B ∧ nat (go p t) ≤ B ∧ nat (opp p t) ≤ B := big_tri.mp (by rw [← tri_of p t]; exact h)
theorem nat_mul (a b : Int) : nat (a * b) = nat a * nat b := by
  have h1 : ∀ x : Int, nat x = (x.natAbs : Int) := fun x => by unfold nat; split <;> omega
  rw [h1, h1, h1, Int.natAbs_mul]
  exact Int.natCast_mul ..
theorem nat_add_le (a b : Int) : nat (a + b) ≤ nat a + nat b := by unfold nat; split <;> split <;> split <;> omega
theorem push_le (u v w : Int) : nat (push u v w) ≤ nat w + nat u * nat v := by
  unfold push
  have h0 : 0 ≤ nat u * nat v := Int.mul_nonneg (nat_nonneg u) (nat_nonneg v)
  split
  · have := nat_add_le w (-(u * v))
    rw [nat_neg, nat_mul] at this
    rw [Int.sub_eq_add_neg]
    exact this
  · split
    · have := nat_add_le w (u * v)
      rw [nat_mul] at this
      exact this
    · omega
theorem turn_big {p : P3} {t : T3} {B : Int} (h : big t ≤ B) : big (turn p t) ≤ B * B + B := by
  obtain ⟨b1, b2, b3⟩ := big_at (p := p) h
  have hB : 0 ≤ B := Int.le_trans (nat_nonneg _) b1
  rw [tri_of p t, turn_tri, big_tri, nat_neg, nat_neg]
  have h1 := push_le (co p t) (go p t) (opp p t)
  have h2 : nat (co p t) * nat (go p t) ≤ B * B := Int.mul_le_mul b1 b2 (nat_nonneg _) hB
  have h3 : 0 ≤ B * B := Int.mul_nonneg hB hB
  refine ⟨by omega, by omega, by omega⟩
/-- THE BOUND: a turn that does not lead beyond keeps the sizes within B -/
theorem bound_turn {G B : Int} {p : P3} {t : T3} (hG : G ≤ B) (hB : 0 ≤ B) (hm : 4 * mk t ≤ 3 * (B * B)) (hb : big t ≤ B) (hn : ¬ Beyond G p (turn p t)) : big (turn p t) ≤ B := by
  rw [← mk_turn p t] at hm
  rw [tri_of p t] at hm hb hn ⊢
  generalize co p t = u at hm hb hn ⊢
  generalize go p t = v at hm hb hn ⊢
  generalize opp p t = w at hm hb hn ⊢
  obtain ⟨b1, b2, b3⟩ := big_tri.mp hb
  rw [turn_tri] at hm hn ⊢
  rw [big_tri, nat_neg, nat_neg]
  refine ⟨b1, b2, ?_⟩
  generalize hw : push u v w = w' at hm hn ⊢
  rw [beyond_tri] at hn
  by_cases hr : (0 < -u ∧ 0 < -v ∧ 0 < w') ∨ (-u < 0 ∧ -v < 0 ∧ w' < 0)
  · -- a ring
    by_cases c1 : G < nat w'
    · by_cases c2 : 2 ≤ nat (-u) ∧ 2 ≤ nat (-v)
      · have c3 : 2 * nat w' ≤ nat (-u) * nat (-v) := by
          by_cases z : nat (-u) * nat (-v) < 2 * nat w'
          · exact absurd ⟨c1, hr, c2.1, c2.2, z⟩ hn
          · omega
        rw [nat_neg, nat_neg] at c3
        rcases hr with ⟨r1, r2, r3⟩ | ⟨r1, r2, r3⟩
        · have e := push_neg (w := w) (show u < 0 by omega) (show v < 0 by omega)
          rw [hw] at e
          rw [nat_neg' (show u < 0 by omega), nat_neg' (show v < 0 by omega), Int.neg_mul_neg] at c3
          rw [nat_pos r3] at c3 ⊢
          have : nat w = -w := nat_neg' (by omega)
          omega
        · have e := push_pos (w := w) (show 0 < u by omega) (show 0 < v by omega)
          rw [hw] at e
          rw [nat_pos (show 0 < u by omega), nat_pos (show 0 < v by omega)] at c3
          rw [nat_neg' r3] at c3 ⊢
          have : nat w = w := nat_pos (by omega)
          omega
      · -- a size 1
        have key : ∀ x y : Int, nat x = 1 → (0 < -u ∧ 0 < -v ∧ 0 < w') ∨ (-u < 0 ∧ -v < 0 ∧ w' < 0) → (x = u ∧ y = v ∨ x = v ∧ y = u) → nat w' ≤ B := by
          intro x y hx _ hxy
          have hmk : mk (tri p (-u) (-v) w') = 1 * 1 + nat y * nat y + nat w' * nat w' - 1 * nat y * nat w' := by
            rw [mk_tri, if_pos hr, nat_neg, nat_neg, ← nat_sq (-u), ← nat_sq (-v), ← nat_sq w', nat_neg, nat_neg]
            rcases hxy with ⟨rfl, rfl⟩ | ⟨rfl, rfl⟩
            · rw [hx]
            · rw [hx, Int.mul_comm (nat y) 1]
              omega
          rw [hmk] at hm
          have h3 := one_ring (v := nat y) (w := nat w')
          exact sq_le (nat_nonneg _) hB (by omega)
        have u1 : 1 ≤ nat u := by rw [← nat_neg]; unfold nat; split <;> omega
        have v1 : 1 ≤ nat v := by rw [← nat_neg]; unfold nat; split <;> omega
        rw [nat_neg, nat_neg] at c2
        by_cases z : nat u = 1
        · exact key u v z hr (.inl ⟨rfl, rfl⟩)
        · exact key v u (by omega) hr (.inr ⟨rfl, rfl⟩)
    · omega
  · -- free
    rw [mk_tri, if_neg hr, Int.neg_mul_neg, Int.neg_mul_neg] at hm
    have h1 := sq_nonneg u
    have h2 := sq_nonneg v
    have h3 : 0 ≤ nat (-u) * nat (-v) * nat w' := Int.mul_nonneg (Int.mul_nonneg (nat_nonneg _) (nat_nonneg _)) (nat_nonneg _)
    refine sq_le (nat_nonneg _) hB ?_
    rw [nat_sq]
    have h4 : 0 ≤ B * B := Int.mul_nonneg hB hB
    omega
end At

namespace At
theorem big_opp {p q r : P3} (h1 : p ≠ q) (h2 : q ≠ r) (h3 : p ≠ r) {t : T3} {B : Int} : big t ≤ B ↔ nat (opp p t) ≤ B ∧ nat (opp q t) ≤ B ∧ nat (opp r t) ≤ B := by
  rw [big_le]
  obtain ⟨x, y, z⟩ := t
  cases p <;> cases q <;> cases r <;> first | exact absurd rfl h1 | exact absurd rfl h2 | exact absurd rfl h3 | (simp only [opp]; done) | (simp only [opp]; constructor <;> (rintro ⟨a, b, c⟩; exact ⟨by assumption, by assumption, by assumption⟩))
theorem ring_opp {t : T3} (h : ring t) : (∀ p, 0 < opp p t) ∨ (∀ p, opp p t < 0) := by
  obtain ⟨x, y, z⟩ := t
  rcases h with ⟨a, b, c⟩ | ⟨a, b, c⟩
  · exact .inl fun p => by cases p <;> assumption
  · exact .inr fun p => by cases p <;> assumption
theorem even_big {t : T3} {ps : List P3} {n : Nat} {B : Int} (h : EvenOk t ps n) (hb : big t ≤ B) : big (many n ps t) ≤ B + 2 * (n : Int) * (2 * B) := by
  obtain ⟨p, q, r, rfl, h1, h2, h3, e1, e2, e3⟩ := even_end h
  obtain ⟨b1, b2, b3⟩ := (big_opp h1 h2 h3).mp hb
  have hB : 0 ≤ B := Int.le_trans (nat_nonneg _) b1
  have e6 := nat_add_le (opp q t) (-opp p t)
  rw [nat_neg, ← Int.sub_eq_add_neg] at e6
  have hn : nat (2 * (n : Int)) = 2 * (n : Int) := by unfold nat; rw [if_neg (by omega)]
  have hc : nat (2 * (n : Int) * (opp q t - opp p t)) ≤ 2 * (n : Int) * (2 * B) := by
    rw [nat_mul, hn]
    exact Int.mul_le_mul_of_nonneg_left (by omega) (by omega)
  have h0 : 0 ≤ 2 * (n : Int) * (2 * B) := Int.mul_nonneg (by omega) (by omega)
  refine (big_opp h1 h2 h3).mpr ⟨?_, ?_, ?_⟩
  · rw [e1]
    have := nat_add_le (opp p t) (2 * (n : Int) * (opp q t - opp p t))
    omega
  · rw [e2]
    have := nat_add_le (opp q t) (2 * (n : Int) * (opp q t - opp p t))
    omega
  · rw [e3]
    omega
theorem even_small {p q : P3} {t : T3} {n : Nat} {B : Int} (hr : ring t) (h : EvenOk t [p, q] n) (hn : 0 < n) (hd : nat (opp q t) - nat (opp p t) < 0) (hb : big t ≤ B) : big (many n [p, q] t) ≤ B := by
  obtain ⟨p', q', r, s, a, b, e, h1, h2, h3, hs, tr, tp, tq, hk⟩ := h
  simp only [List.cons.injEq, and_true] at e
  obtain ⟨rfl, rfl⟩ := e
  obtain ⟨e1, e2, e3⟩ := even_many h1 h2 h3 hs n t a b tr tp tq hk
  obtain ⟨b1, b2, b3⟩ := (big_opp h1 h2 h3).mp hb
  have pos : 0 < a ∧ nat (opp p t) = a ∧ nat (opp q t) = b := by
    have hb0 := (hk 0 hn).1
    rw [show (2 * ((0 : Nat) : Int)) = 0 by rfl, Int.zero_mul, Int.add_zero] at hb0
    rcases hs with rfl | rfl
    · simp only [Int.one_mul] at tp tq
      rcases ring_opp hr with z | z
      · have z1 := z p
        refine ⟨by omega, ?_, ?_⟩
        · rw [tp]; unfold nat; rw [if_neg (by omega)]
        · rw [tq]; unfold nat; rw [if_neg (by omega)]
      · have z1 := z r
        omega
    · simp only [Int.neg_mul, Int.one_mul] at tp tq
      rcases ring_opp hr with z | z
      · have z1 := z r
        omega
      · have z1 := z p
        refine ⟨by omega, ?_, ?_⟩
        · rw [tp]; unfold nat; rw [if_pos (by omega)]; omega
        · rw [tq]; unfold nat; rw [if_pos (by omega)]; omega
  obtain ⟨ha, ep, eq⟩ := pos
  have hbn := nat_nonneg (opp q t)
  rw [eq] at hbn
  rw [ep] at b1 hd
  rw [eq] at b2 hd
  have hl := (hk (n - 1) (by omega)).2
  have e5 : 2 * ((n - 1 : Nat) : Int) + 1 = 2 * (n : Int) - 1 := by omega
  rw [e5, Int.sub_mul, Int.one_mul] at hl
  have hneg : 2 * (n : Int) * (b - a) ≤ 0 := Int.mul_nonpos_of_nonneg_of_nonpos (by omega) (by omega)
  generalize 2 * (n : Int) * (b - a) = c at hl hneg e2 e3
  have fin : ∀ x : Int, -B ≤ x → x ≤ B → nat (s * x) ≤ B := fun x l u => by
    rcases hs with rfl | rfl
    · rw [Int.one_mul]; unfold nat; split <;> omega
    · rw [Int.neg_mul, Int.one_mul]; unfold nat; split <;> omega
  refine (big_opp h1 h2 h3).mpr ⟨?_, ?_, ?_⟩
  · rw [e2]; exact fin _ (by omega) (by omega)
  · rw [e3]; exact fin _ (by omega) (by omega)
  · rw [e1, ← tr]; exact b3
/-- whole rounds change nothing -/
theorem fold_round {t : T3} {ps : List P3} {m j : Int} (h0 : 0 ≤ j) (h1 : j < m) (h : many (m - j).toNat ps t = t) : 0 ≤ j.fmod (m - j) ∧ j.fmod (m - j) ≤ j ∧ many (m - j.fmod (m - j)).toNat ps t = t := by
  obtain ⟨n, rfl⟩ : ∃ n : Nat, j = (n : Int) := ⟨j.toNat, by omega⟩
  obtain ⟨k, hk⟩ : ∃ k : Nat, m - (n : Int) = (k : Int) := ⟨(m - n).toNat, by omega⟩
  (rw [Int.fmod_eq_emod_of_nonneg _ (by omega)])
  rw [hk] at h ⊢
  rw [Int.toNat_natCast] at h
  have e1 : (n : Int) % (k : Int) = ((n % k : Nat) : Int) := by rw [Int.natCast_emod]
  rw [e1]
  have hle : n % k ≤ n := Nat.mod_le _ _
  (refine ⟨by omega, by omega, ?_⟩)
  have e2 : (m - ((n % k : Nat) : Int)).toNat = k + k * (n / k) := by
    have := Nat.div_add_mod n k
    omega
  rw [e2, many_round ps k t h]
  have e3 : (k + k * (n / k)) % k = 0 := by
    rw [Nat.add_mul_mod_self_left, Nat.mod_self]
  rw [e3]
  rfl
theorem rep_add (n m : Nat) (r : List P3) : rep (n + m) r = rep n r ++ rep m r := by
  induction n with
  | zero => rw [Nat.zero_add, rep_zero, List.nil_append]
  | succ n ih => rw [show n + 1 + m = (n + m) + 1 by omega, rep_succ, rep_succ, ih, List.append_assoc]
theorem rep_rep (n k : Nat) (r : List P3) : rep n (rep k r) = rep (n * k) r := by
  induction n with
  | zero => rw [Nat.zero_mul, rep_zero, rep_zero]
  | succ n ih => rw [rep_succ, ih, Nat.succ_mul, Nat.add_comm, rep_add]
theorem many_nil (n : Nat) (t : T3) : many n [] t = t := by
  induction n with
  | zero => rfl
  | succ n ih => exact ih
theorem mk_many (n : Nat) (ps : List P3) (t : T3) : mk (many n ps t) = mk t := by rw [← walk_rep, mk_walk]
/-- the target of so many times a core, there and back -/
theorem walk_whole (w r : List P3) (n : Nat) (t : T3) : walk t (w ++ rep n r ++ w.reverse) = walk (many n r (walk t w)) w.reverse := by rw [walk_append, walk_append, walk_rep]
theorem far_way {G : Int} {t : T3} {w v : List P3} (h : red (w ++ v)) (hb : ∃ pre p post, w = pre ++ p :: post ∧ Beyond G p (walk t (pre ++ [p]))) : G < big (walk t (w ++ v)) := by
  obtain ⟨pre, p, post, rfl, b⟩ := hb
  have e : pre ++ p :: post ++ v = pre ++ p :: (post ++ v) := by rw [List.append_assoc]; rfl
  rw [e] at h ⊢
  exact beyond_end b h
theorem far_core {G : Int} {t : T3} {w r : List P3} {m n : Nat} (h : red (w ++ rep m r ++ w.reverse)) (hn : n < m) (hb : ∃ pre p post, r = pre ++ p :: post ∧ Beyond G p (walk (many n r (walk t w)) (pre ++ [p]))) : G < big (walk t (w ++ rep m r ++ w.reverse)) := by
  obtain ⟨pre, p, post, e, b⟩ := hb
  have e1 : rep m r = rep n r ++ (pre ++ p :: post ++ rep (m - n - 1) r) := by
    rw [← e, ← rep_succ, ← rep_add]
    congr 1
    omega
  have e2 : w ++ rep m r ++ w.reverse = (w ++ rep n r ++ pre) ++ p :: (post ++ (rep (m - n - 1) r ++ w.reverse)) := by
    rw [e1]
    (simp only [List.append_assoc, List.cons_append])
  rw [e2] at h ⊢
  refine beyond_end ?_ h
  have e3 : walk t (w ++ rep n r ++ pre ++ [p]) = walk (many n r (walk t w)) (pre ++ [p]) := by
    rw [List.append_assoc (w ++ rep n r), walk_append, walk_append t w, walk_rep]
  rw [e3]
  exact b
theorem far_back {G : Int} {t : T3} {u v : List P3} (h : red (u ++ v)) (hb : ∃ pre p post, v = pre ++ p :: post ∧ Beyond G p (walk (walk t u) (pre ++ [p]))) : G < big (walk t (u ++ v)) := by
  obtain ⟨pre, p, post, rfl, b⟩ := hb
  have e : u ++ (pre ++ p :: post) = (u ++ pre) ++ p :: post := by rw [List.append_assoc]
  rw [e] at h ⊢
  refine beyond_end ?_ h
  rw [List.append_assoc, walk_append]
  exact b
theorem nat_abs_le {i B : Int} (h : nat i ≤ B) : i * i ≤ B * B := by
  rw [← nat_sq]
  exact Int.mul_le_mul h h (nat_nonneg _) (Int.le_trans (nat_nonneg _) h)
theorem mk_le {t : T3} {G : Int} (h : big t ≤ G) : mk t ≤ 3 * (G * G) + G * G * G := by
  obtain ⟨h1, h2, h3⟩ := big_le.mp h
  have hG : 0 ≤ G := Int.le_trans (nat_nonneg _) h1
  have s1 := nat_abs_le h1
  have s2 := nat_abs_le h2
  have s3 := nat_abs_le h3
  have p1 : nat t.1 * nat t.2.1 ≤ G * G := Int.mul_le_mul h1 h2 (nat_nonneg _) hG
  have p2 : nat t.1 * nat t.2.1 * nat t.2.2 ≤ G * G * G := Int.mul_le_mul p1 h3 (nat_nonneg _) (Int.mul_nonneg hG hG)
  have p0 : 0 ≤ nat t.1 * nat t.2.1 * nat t.2.2 := Int.mul_nonneg (Int.mul_nonneg (nat_nonneg _) (nat_nonneg _)) (nat_nonneg _)
  have p3 : 0 ≤ G * G * G := Int.mul_nonneg (Int.mul_nonneg hG hG) hG
  unfold mk
  split <;> omega
/-- the core and its root: what is asked once a word has been parted -/
theorem root_red {w r : List P3} {m : Nat} (h : red (w ++ rep m r ++ w.reverse)) (hm : 0 < m) : red r := by
  cases m with
  | zero => omega
  | succ m =>
    have h1 := (red_append.mp (red_append.mp h).1).2.1
    rw [rep_succ] at h1
    exact (red_append.mp h1).1
/-- so many times a word that has been parted -/
theorem parted {ps w c : List P3} (h : keeps ps = w ++ c ++ w.reverse) (n : Nat) (t : T3) : many n ps t = walk (many n c (walk t w)) w.reverse := by
  rw [many_congr (qs := w ++ c ++ w.reverse) (fun s => by rw [← h, keeps_walk]), many_around]
theorem parted_red {ps w c : List P3} (h : keeps ps = w ++ c ++ w.reverse) (hc : c.length ≤ 1 ∨ c.head? ≠ c.getLast?) (hn : c ≠ []) {n : Nat} (h0 : 0 < n) (h1 : c.length = 1 → n = 1) : red (w ++ rep n c ++ w.reverse) := by
  have hr : red (w ++ c ++ w.reverse) := by rw [← h]; exact keeps_red ps
  by_cases hl : c.length = 1
  · rw [h1 hl, rep_succ, rep_zero, List.append_nil]
    exact hr
  · refine whole_red hr ⟨(red_append.mp (red_append.mp hr).1).2.1, fun p q hp hq e => ?_⟩ hn n h0
    rcases hc with hc | hc
    · have : 0 < c.length := List.length_pos_iff.mpr hn
      omega
    · exact hc (by rw [hp, hq, e])
end At

namespace At
/-- the turn at p leads down from t: a ring with sizes of 2 and more, the tie opposite p more than half the product of the others -/
def Down (p : P3) (t : T3) : Prop := ring t ∧ 2 ≤ nat (co p t) ∧ 2 ≤ nat (go p t) ∧ nat (co p t) * nat (go p t) < 2 * nat (opp p t)
theorem beyond_down {G : Int} {p : P3} {t : T3} : Beyond G p t ↔ G < nat (opp p t) ∧ Down p t := Iff.rfl
theorem opp_top {u v w : Int} (h1 : 2 ≤ u) (h2 : 2 ≤ v) (h : u * v < 2 * w) : u < w ∧ v < w := by
  have a := Int.mul_le_mul_of_nonneg_left h2 (show 0 ≤ u by omega)
  have b := Int.mul_le_mul_of_nonneg_right h1 (show 0 ≤ v by omega)
  omega
theorem Down.top {p : P3} {t : T3} (d : Down p t) : nat (co p t) < nat (opp p t) ∧ nat (go p t) < nat (opp p t) := opp_top d.2.1 d.2.2.1 d.2.2.2
theorem Down.least {p : P3} {x y z : Int} (d : Down p (x, y, z)) : 2 ≤ min (min (nat x) (nat y)) (nat z) := by
  have t := d.top
  obtain ⟨_, h1, h2, _⟩ := d
  cases p
  · have : nat z < nat y := t.1
    have : 2 ≤ nat z := h1
    have : 2 ≤ nat x := h2
    omega
  · have : nat x < nat z := t.1
    have : 2 ≤ nat x := h1
    have : 2 ≤ nat y := h2
    omega
  · have : nat y < nat x := t.1
    have : 2 ≤ nat y := h1
    have : 2 ≤ nat z := h2
    omega
theorem top_only {p q : P3} {t : T3} (hp : ∀ s, nat (opp s t) ≤ nat (opp p t)) (d : Down q t) : q = p := by
  have top := d.top
  obtain ⟨x, y, z⟩ := t
  have h := hp q
  cases p <;> cases q <;> first | rfl | (exfalso; simp only [opp, co, go] at top h; omega)
theorem ring_prod {t : T3} (p : P3) (r : ring t) : go p t * co p t = nat (co p t) * nat (go p t) := by
  have e : ∀ {u v : Int}, (0 < u ∧ 0 < v) ∨ (u < 0 ∧ v < 0) → v * u = nat u * nat v := fun {u v} h => by
    unfold nat
    (rcases h with ⟨h1, h2⟩ | ⟨h1, h2⟩)
    · rw [if_neg (by omega), if_neg (by omega), Int.mul_comm]
    · rw [if_pos h1, if_pos h2, Int.neg_mul_neg, Int.mul_comm]
  obtain ⟨x, y, z⟩ := t
  refine e ?_
  rcases r with ⟨h1, h2, h3⟩ | ⟨h1, h2, h3⟩
  · left
    cases p
    · exact ⟨h3, h1⟩
    · exact ⟨h1, h2⟩
    · exact ⟨h2, h3⟩
  · right
    cases p
    · exact ⟨h3, h1⟩
    · exact ⟨h1, h2⟩
    · exact ⟨h2, h3⟩
theorem top_down {p s : P3} {t : T3} (hp : ∀ s, nat (opp s t) ≤ nat (opp p t)) (c : 2 * nat (opp p t) ≤ go p t * co p t) (e : go p t * co p t = nat (co p t) * nat (go p t)) (d : Down s t) : False := by
  have h := top_only hp d
  subst h
  have := d.2.2.2
  omega
theorem down_of {p : P3} {t : T3} (r : ring t) (least : ∀ s : P3, 2 ≤ nat (opp s t)) (c : ¬ 2 * nat (opp p t) ≤ go p t * co p t) (e : go p t * co p t = nat (co p t) * nat (go p t)) : Down p t := by
  refine ⟨r, ?_, ?_, by omega⟩
  · obtain ⟨x, y, z⟩ := t
    cases p
    · exact least .b
    · exact least .c
    · exact least .a
  · obtain ⟨x, y, z⟩ := t
    cases p
    · exact least .c
    · exact least .a
    · exact least .b
end At

namespace At
open L2 PyProof.Rows PySem.Spec PySem
theorem hu64 {A : Around} {k : Nat} (hr : Room k A) : A.units + 64 < cLine := by have := hr.un; omega
theorem go_rGetL {K : PySem.W.Frag} {H : Hp} {Q : VK} {v : V} {p : Addr} {xs : List V} {k : Int} (h0 : 0 ≤ k) (h1 : k < 2 ^ 63) (h : SqL K H p xs) (e : xs[k.toNat]? = some v) (q : Q v H) : rGetL K (.ref p) (.int k) H Q := ⟨p, xs, k, v, rfl, rfl, h0, h1, h, e, q⟩
theorem nxt_lo (p : P3) : 0 ≤ (nxt p).i := by cases p <;> decide
theorem nxt_hi (p : P3) : (nxt p).i < 2 ^ 63 := by cases p <;> decide
theorem go_make {C : Addr} {sp : Sp} {E : XK} {t : TA} {σ : L2.St} {H : Hp} {Q : VK} (h : t σ H fun vs H1 => ∀ x dx, H1 x = none → H1 dx = none → dx ≠ x →
  sp (.ref x :: vs) (upd (upd H1 dx (.own x)) x (.ins C dx [])) (fun v H2 => v = .non ∧ Q (.ref x) H2) E) : tMake C sp [] E t σ H Q := by
  have e : (fun vs H1 => ∀ x dx, H1 x = none → H1 dx = none → dx ≠ x → sp (.ref x :: (vs ++ [])) (upd (upd H1 dx (.own x)) x (.ins C dx [])) (fun v H2 => v = .non ∧ Q (.ref x) H2) E) = (fun vs H1 => ∀ x dx, H1 x = none → H1 dx = none → dx ≠ x →
      sp (.ref x :: vs) (upd (upd H1 dx (.own x)) x (.ins C dx [])) (fun v H2 => v = .non ∧ Q (.ref x) H2) E) := by
    funext vs H1
    rw [List.append_nil]
  show t σ H fun vs H1 => ∀ x dx, H1 x = none → H1 dx = none → dx ≠ x → sp (.ref x :: (vs ++ [])) (upd (upd H1 dx (.own x)) x (.ins C dx [])) (fun v H2 => v = .non ∧ Q (.ref x) H2) E
  rw [e]
  exact h
/-! ### a dict of the module, read -/
theorem ix_kd' {X : Cx} {K : PySem.W.Frag} {w : World} {d : Addr} {es : Array DictEntry} {n : Nat} (D : KDict K w d es n) (eK : X.K = K := by rfl) (ew : X.w = w := by rfl) : IxR X (rKd K d) := by
  subst eK ew
  exact ix_kd D
theorem ix_tup' {X : Cx} {K : PySem.W.Frag} (eK : X.K = K := by rfl) : IxR X (rIxT K) := by
  subst eK
  exact ix_tup
theorem ix_list' {X : Cx} {K : PySem.W.Frag} (eK : X.K = K := by rfl) : IxR X (rIxL K) := by
  subst eK
  exact ix_list
def rInKd (K : PySem.W.Frag) (d : Addr) : R2 := fun x y H Q => ∃ (z : Str) (r : Option Value), x = .str z ∧ y = .ref d ∧ PySem.W.nsIn K d z = some r ∧ Q (.bl r.isSome) H
theorem op_in_kd' {X : Cx} {K : PySem.W.Frag} {w : World} {d : Addr} {es : Array DictEntry} {n : Nat} (D : KDict K w d es n) (eK : X.K = K := by rfl) (ew : X.w = w := by rfl) : OpR X (compareOp .In) (rInKd K d) := by
  subst eK ew
  exact op_in_kd D
/-! ### isinstance of a built-in type -/
theorem go_isi {K : PySem.W.Frag} {H : Hp} {Q : VK} {x : V} {m n : String} {b : Bool} (ty : TyOf K H x (.type m)) (e : PySem.W.kitOne K (.type m) (.type n) = some b) (q : Q (.bl b) H) : rIsi K [x, .ty n] H Q := ⟨x, .ty n, .type m, .type n, b, rfl, .ty n, .base ty, e, q⟩
theorem kit_ii (K : PySem.W.Frag) : PySem.W.kitOne K (.type "int") (.type "int") = some true := by rfl
theorem kit_ib (K : PySem.W.Frag) : PySem.W.kitOne K (.type "int") (.type "bool") = some false := by rfl
theorem kit_ss (K : PySem.W.Frag) : PySem.W.kitOne K (.type "str") (.type "str") = some true := by rfl
theorem kit_tt (K : PySem.W.Frag) : PySem.W.kitOne K (.type "tuple") (.type "tuple") = some true := by rfl
/-! ### numbers, places, words -/
def HUGE : Int := 2 ^ 400000
def HALF : Int := 2 ^ 199999
def MID : Int := 2 ^ 8000
def BB : Int := GR * MT
def BB3 : Int := BB + 2 * MID * (2 * BB)
theorem gr_bb : GR ≤ BB := by decide +kernel
theorem bb_mid : BB ≤ MID := by decide +kernel
theorem bb_bb3 : BB ≤ BB3 := by decide +kernel
theorem bb3_half : BB3 ≤ HALF := by decide +kernel
theorem mk_bb {t : T3} (h : big t ≤ GR) : 4 * mk t ≤ 3 * (BB * BB) := by
  have h1 := mk_le h
  have h2 : 4 * (3 * (GR * GR) + GR * GR * GR) ≤ 3 * (BB * BB) := by decide +kernel
  omega
theorem mk_bb3 {t : T3} (h : big t ≤ GR) : 4 * mk t ≤ 3 * (BB3 * BB3) := by
  have h1 := mk_le h
  have h2 : 4 * (3 * (GR * GR) + GR * GR * GR) ≤ 3 * (BB3 * BB3) := by decide +kernel
  omega
theorem half_ok {B : Int} (h0 : 0 ≤ B) (h : B ≤ HALF) : B * B + B ≤ HUGE := by
  have h1 : B * B ≤ HALF * HALF := Int.mul_le_mul h h h0 (Int.le_trans h0 h)
  have h2 : HALF * HALF + HALF ≤ HUGE := by decide +kernel
  omega
theorem half_huge : HALF ≤ HUGE := by decide +kernel
theorem mid_half : MID ≤ HALF := by decide +kernel
def P3.ch : P3 → Nat
  | .a => 97
  | .b => 98
  | .c => 99
/-- a word -/
def wd (ps : List P3) : Str := ⟨(ps.map P3.ch).toArray⟩
def lt (p : P3) : Str := ⟨#[p.ch]⟩
theorem lt_a : lt .a = ("a" : Str) := by decide +kernel
theorem lt_b : lt .b = ("b" : Str) := by decide +kernel
theorem lt_c : lt .c = ("c" : Str) := by decide +kernel
def prv : P3 → P3
  | .a => .c
  | .b => .a
  | .c => .b
/-- the numbers as a tuple's items -/
def tv (t : T3) : List V := [.int t.1, .int t.2.1, .int t.2.2]
def szs (t : T3) : T3 := (nat t.1, nat t.2.1, nat t.2.2)
def pl (ps : List P3) : List V := ps.map fun p => .int p.i
theorem pl_rev (ps : List P3) : (pl ps).reverse = pl ps.reverse := by rw [pl, pl, List.map_reverse]
theorem at_co (p : P3) (t : T3) : atI (tv t) (prv p).i = some (.int (co p t)) := by cases p <;> rfl
theorem at_go (p : P3) (t : T3) : atI (tv t) p.i = some (.int (go p t)) := by cases p <;> rfl
theorem at_opp (p : P3) (t : T3) : atI (tv t) (nxt p).i = some (.int (opp p t)) := by cases p <;> rfl
theorem at_set1 (p : P3) {x y z : V} : ixN [x, y, z].length (prv p).i = some (prv p).i.toNat := by cases p <;> rfl
theorem at_set2 (p : P3) {x y z w : V} {j : Nat} : ixN ([x, y, z].set j w).length p.i = some p.i.toNat := by
  rw [List.length_set]
  cases p <;> rfl
theorem at_set3 (p : P3) (t : T3) : (([.int (push (co p t) (go p t) (opp p t)), .int (push (co p t) (go p t) (opp p t)), .int (push (co p t) (go p t) (opp p t))] : List V).set (prv p).i.toNat (.int (-co p t))).set p.i.toNat (.int (-go p t)) = tv (turn p t) := by
  cases p <;> rfl
theorem at_opp2 (p : P3) (t : T3) : (tv t)[(nxt p).i.toNat]? = some (.int (opp p t)) := by cases p <;> rfl
theorem at_opp3 {p q : P3} (h : p ≠ q) (t : T3) (u : V) : ((tv t).set (nxt p).i.toNat u)[(nxt q).i.toNat]? = some (.int (opp q t)) := by cases p <;> cases q <;> first | exact absurd rfl h | rfl
theorem at_ix (p : P3) (t : T3) : ixN (tv t).length (nxt p).i = some (nxt p).i.toNat := by cases p <;> rfl
theorem at_ix2 (p : P3) (t : T3) (j : Nat) (u : V) : ixN ((tv t).set j u).length (nxt p).i = some (nxt p).i.toNat := by
  rw [List.length_set]
  exact at_ix p t
theorem at_set5 {p q r : P3} (h1 : p ≠ q) (h2 : q ≠ r) (h3 : p ≠ r) (t s : T3) {u v : Int} (e1 : opp p s = u) (e2 : opp q s = v) (e3 : opp r s = opp r t) : ((tv t).set (nxt p).i.toNat (.int u)).set (nxt q).i.toNat (.int v) = tv s := by
  subst e1 e2
  obtain ⟨x, y, z⟩ := t
  obtain ⟨a, b, c⟩ := s
  cases p <;> cases q <;> cases r <;> first | exact absurd rfl h1 | exact absurd rfl h2 | exact absurd rfl h3 | (simp only [opp] at e3; subst e3; rfl)
def chi (c : Nat) : Int := if c = 97 then 0 else if c = 98 then 1 else 2
theorem chi_ch (p : P3) : chi p.ch = p.i := by cases p <;> rfl
theorem wd_size (ps : List P3) : (wd ps).cps.size = ps.length := by simp [wd]
theorem wd_mem {ps : List P3} {c : Nat} (h : c ∈ (wd ps).cps.toList) : ∃ p : P3, c = p.ch := by
  simp only [wd, List.mem_map] at h
  obtain ⟨p, _, rfl⟩ := h
  exact ⟨p, rfl⟩
theorem wd_list (ps : List P3) : (wd ps).cps.toList.map (fun c => V.int (chi c)) = pl ps := by
  simp only [wd, pl, List.map_map]
  congr 1
  funext p
  show V.int (chi p.ch) = _
  rw [chi_ch]
theorem pl_at {ps : List P3} {i : Nat} {x : V} (h : (pl ps)[i]? = some x) : ∃ c : P3, ps[i]? = some c ∧ x = .int c.i := by
  rw [pl, List.getElem?_map] at h
  cases z : ps[i]? with
  | none => rw [z] at h; cases h
  | some c => rw [z] at h; exact ⟨c, rfl, (Option.some.inj h).symm⟩
theorem fold_len (ps : List P3) : (ps.foldl keep []).length ≤ ps.length := keeps_length ps
theorem p3_inj {p q : P3} (h : p.i = q.i) : p = q := by cases p <;> cases q <;> first | rfl | cases h
/-! ### == of lists and tuples of ints -/
theorem dp_ints {K : PySem.W.Frag} {H : Hp} : ∀ ns : List Int, DpAll K H (ns.map V.int) (ns.map PyData.int)
  | [] => .nil
  | n :: ns => .cons (.int n) (dp_ints ns)
theorem lay_ints : ∀ ns : List Int, PyData.canLayAll0 (ns.map PyData.int) = true
  | [] => by simp only [List.map_nil, PyData.canLayAll0]
  | n :: ns => by simp only [List.map_cons, PyData.canLayAll0, PyData.canLay0, lay_ints ns, Bool.and_self]
theorem deep_ints : ∀ ns : List Int, PyData.depthAll (ns.map PyData.int) = 0
  | [] => by simp only [List.map_nil, PyData.depthAll]
  | n :: ns => by simp only [List.map_cons, PyData.depthAll, PyData.depth, deep_ints ns, Nat.max_self]
theorem eqv_ints : ∀ ns ms : List Int, PyData.eqvAll (ns.map PyData.int) (ms.map PyData.int) = decide (ns = ms)
  | [], [] => (by simp [PyData.eqvAll])
  | [], m :: ms => by simp [PyData.eqvAll]
  | n :: ns, [] => by simp [PyData.eqvAll]
  | n :: ns, m :: ms => by
    simp only [List.map_cons, PyData.eqvAll, PyData.eqv, eqv_ints ns ms, List.cons.injEq]
    by_cases h : n = m <;> by_cases h2 : ns = ms <;> simp [h, h2]
theorem shaped_lst (ns : List Int) : SeqAt.shaped (.list (ns.map PyData.int)) = true := by
  unfold SeqAt.shaped
  simp only [PyData.canLay0, PyData.depth, lay_ints, deep_ints]
  rfl
theorem shaped_tup (ns : List Int) : SeqAt.shaped (.tuple (ns.map PyData.int)) = true := by
  unfold SeqAt.shaped
  simp only [PyData.canLay0, PyData.depth, lay_ints, deep_ints]
  rfl
theorem go_eqL {K : PySem.W.Frag} {H : Hp} {p q : Addr} {ns ms : List Int} {Q : VK} (h1 : SqL K H p (ns.map V.int)) (h2 : SqL K H q (ms.map V.int)) (k : Q (.bl (decide (ns = ms))) H) : rEqD K (.ref p) (.ref q) H Q :=
  ⟨_, _, .lst h1 (dp_ints ns), .lst h2 (dp_ints ms), shaped_lst ns, shaped_lst ms, by rw [PyData.eqv, eqv_ints]; exact k⟩
theorem go_eqT {K : PySem.W.Frag} {H : Hp} {p q : Addr} {ns ms : List Int} {Q : VK} (h1 : SqT K H p (ns.map V.int)) (h2 : SqT K H q (ms.map V.int)) (k : Q (.bl (decide (ns = ms))) H) : rEqD K (.ref p) (.ref q) H Q :=
  ⟨_, _, .tup h1 (dp_ints ns), .tup h2 (dp_ints ms), shaped_tup ns, shaped_tup ms, by rw [PyData.eqv, eqv_ints]; exact k⟩
theorem pl_ints (ps : List P3) : pl ps = (ps.map P3.i).map V.int := by rw [pl, List.map_map]; rfl
theorem pl_inj {ps qs : List P3} : ps.map P3.i = qs.map P3.i ↔ ps = qs := by
  constructor
  · intro h
    have : ∀ (ps qs : List P3), ps.map P3.i = qs.map P3.i → ps = qs := by
      intro ps
      induction ps with
      | nil => intro qs h; cases qs with
        | nil => rfl
        | cons q qs => cases h
      | cons p ps ih => intro qs h; cases qs with
        | nil => cases h
        | cons q qs =>
          (simp only [List.map_cons, List.cons.injEq] at h)
          rw [p3_inj h.1, ih qs h.2]
    exact this ps qs h
  · intro h; rw [h]
theorem go_eqP {K : PySem.W.Frag} {H : Hp} {p q : Addr} {ps qs : List P3} {Q : VK} (h1 : SqL K H p (pl ps)) (h2 : SqL K H q (pl qs)) (k : Q (.bl (decide (ps = qs))) H) : rEqD K (.ref p) (.ref q) H Q := by
  rw [pl_ints] at h1 h2
  refine go_eqL h1 h2 ?_
  have e : decide (ps.map P3.i = qs.map P3.i) = decide (ps = qs) := decide_eq_decide.mpr pl_inj
  rw [e]
  exact k
theorem tv_ints (t : T3) : tv t = [t.1, t.2.1, t.2.2].map V.int := rfl
theorem go_eq3 {K : PySem.W.Frag} {H : Hp} {p q : Addr} {t s : T3} {Q : VK} (h1 : H p = some (.tup (tv t))) (h2 : H q = some (.tup (tv s))) (k : Q (.bl (decide (t = s))) H) : rEqD K (.ref p) (.ref q) H Q := by
  refine go_eqT (ns := [t.1, t.2.1, t.2.2]) (ms := [s.1, s.2.1, s.2.2]) (SqT.of h1) (SqT.of h2) ?_
  have e : decide ([t.1, t.2.1, t.2.2] = [s.1, s.2.1, s.2.2]) = decide (t = s) := decide_eq_decide.mpr (by
    obtain ⟨x, y, z⟩ := t
    obtain ⟨x', y', z'⟩ := s
    simp)
  rw [e]
  exact k
theorem atI_back {α : Type} (u : List α) (z : α) (v : List α) {n : Nat} (h : v.length = n) : atI (u ++ z :: v) (-1 - (n : Int)) = some z := by
  unfold atI ixN
  rw [if_neg (by omega), List.length_append, List.length_cons, if_pos (by omega)]
  have e : ((-1 - (n : Int)) + ((u.length + (v.length + 1) : Nat) : Int)).toNat = u.length := by omega
  rw [e]
  show (u ++ z :: v)[u.length]? = some z
  rw [List.getElem?_append_right (Nat.le_refl _), Nat.sub_self]
  rfl
theorem sIx_in (n d j : Nat) (h : j ≤ n) : HT.sIx n d (some (j : Int)) = j := by
  rw [HT.sIx_nat]
  omega
theorem cut_to (xs : List V) (j : Nat) (h : j ≤ xs.length) : cutV xs none (some (j : Int)) = xs.take j := by
  unfold cutV
  rw [sIx_in _ _ _ h, HT.sIx_none, List.drop_zero, Nat.sub_zero]
theorem cut_mid (xs : List V) (i : Nat) (k : Int) (h0 : (i : Int) ≤ k) (h1 : 0 ≤ k) (h2 : k ≤ xs.length) : cutV xs (some (i : Int)) (some k) = (xs.drop i).take (k.toNat - i) := by
  obtain ⟨j, rfl⟩ : ∃ j : Nat, k = (j : Int) := ⟨k.toNat, by omega⟩
  unfold cutV
  rw [sIx_in _ _ _ (by omega), sIx_in _ _ _ (by omega)]
  rfl
theorem pl_rep (ps : List P3) : ∀ n : Nat, (List.replicate n (pl ps)).flatten = pl (rep n ps)
  | 0 => rfl
  | n + 1 => by
    rw [List.replicate_succ, List.flatten_cons, pl_rep ps n, rep_succ, pl, pl, pl, List.map_append]
theorem core_cut (w c : List P3) : ((pl (w ++ c ++ w.reverse)).drop w.length).take c.length = pl c := by
  rw [pl, ← List.map_drop, ← List.map_take, List.append_assoc, List.drop_left, List.take_left]
  rfl
theorem mul_ok {B a b : Int} (hB : B ≤ HUGE) (ha : nat a ≤ B) (hb : nat b ≤ B) : CMulW a b := by
  have e : ∀ x : Int, nat x ≤ B → x.natAbs < 2 ^ 400001 := fun x hx => by
    have h1 : (x.natAbs : Int) = nat x := by unfold nat; split <;> omega
    have h2 : (x.natAbs : Int) ≤ 2 ^ 400000 := by
      rw [h1]
      exact Int.le_trans hx hB
    have h3 : x.natAbs ≤ 2 ^ 400000 := by exact_mod_cast h2
    exact Nat.lt_of_le_of_lt h3 (Nat.pow_lt_pow_right (by decide) (by decide))
  exact wide_mul (e a ha) (e b hb) (by decide) (by decide) (by decide)
/-! ### standings and rows of turns -/
def StAt (K : PySem.W.Frag) (H : Hp) (a : Addr) (t : T3) : Prop := ∃ dx n, H a = some (.ins (He.ga K "Standing") dx [("_numbers", .ref n)]) ∧ H n = some (.tup (tv t))
theorem StAt.ext {K : PySem.W.Frag} {H H' : Hp} {a : Addr} {t : T3} (h : StAt K H a t) (e : Ext H H') : StAt K H' a t := by
  obtain ⟨dx, n, h1, h2⟩ := h
  exact ⟨dx, n, e _ _ h1, e _ _ h2⟩
abbrev Row := List (List P3 × Int)
def PairAt (H : Hp) (r : Addr) (pm : List P3 × Int) : Prop := H r = some (.tup [.str (wd pm.1), .int pm.2])
def PairsAt (H : Hp) : List Addr → Row → Prop
  | [], [] => True
  | r :: rs, pm :: row => PairAt H r pm ∧ PairsAt H rs row
  | _, _ => False
def RowAt (H : Hp) (a : Addr) (row : Row) : Prop := ∃ rs : List Addr, H a = some (.tup (rs.map V.ref)) ∧ PairsAt H rs row
theorem PairsAt.ext {H H' : Hp} (e : Ext H H') : ∀ {rs : List Addr} {row : Row}, PairsAt H rs row → PairsAt H' rs row
  | [], [], _ => trivial
  | _ :: _, _ :: _, h => ⟨e _ _ h.1, PairsAt.ext e h.2⟩
  | [], _ :: _, h => h
  | _ :: _, [], h => h
theorem RowAt.ext {H H' : Hp} {a : Addr} {row : Row} (h : RowAt H a row) (e : Ext H H') : RowAt H' a row := by
  obtain ⟨rs, h1, h2⟩ := h
  exact ⟨rs, e _ _ h1, h2.ext e⟩
theorem PairsAt.len {H : Hp} : ∀ {rs : List Addr} {row : Row}, PairsAt H rs row → rs.length = row.length
  | [], [], _ => rfl
  | _ :: _, _ :: _, h => congrArg (· + 1) (PairsAt.len h.2)
  | [], _ :: _, h => h.elim
  | _ :: _, [], h => h.elim
theorem PairsAt.at_ {H : Hp} : ∀ {rs : List Addr} {row : Row}, PairsAt H rs row → ∀ {i : Nat} {x : V}, (rs.map V.ref)[i]? = some x → ∃ r pm, x = .ref r ∧ rs[i]? = some r ∧ row[i]? = some pm ∧ PairAt H r pm
  | [], [], _, i, x, hx => by simp at hx
  | r :: rs, pm :: row, h, 0, x, hx => by
    simp at hx
    exact ⟨r, pm, hx.symm, rfl, rfl, h.1⟩
  | r :: rs, pm :: row, h, i + 1, x, hx => by
    rw [List.map_cons, List.getElem?_cons_succ] at hx
    obtain ⟨r', pm', h1, h2, h3, h4⟩ := PairsAt.at_ h.2 hx
    exact ⟨r', pm', h1, by rw [List.getElem?_cons_succ]; exact h2, by rw [List.getElem?_cons_succ]; exact h3, h4⟩
  | [], _ :: _, h, _, _, _ => h.elim
  | _ :: _, [], h, _, _, _ => h.elim
def PairOk (pm : List P3 × Int) : Prop := 1 ≤ pm.1.length ∧ pm.1.length ≤ 12 ∧ 0 ≤ pm.2 ∧ pm.2 ≤ MT
def RowOk (row : Row) : Prop := row.length ≤ 200 ∧ ∀ pm ∈ row, PairOk pm
def rowWalk (t : T3) (row : Row) : T3 := row.foldl (fun t pm => many pm.2.toNat pm.1 t) t
def rowLen (row : Row) : Int := (row.map fun pm => (pm.1.length : Int) * pm.2).sum
theorem rowWalk_succ {t : T3} {row : Row} {i : Nat} {pm : List P3 × Int} (h : row[i]? = some pm) : rowWalk t (row.take (i + 1)) = many pm.2.toNat pm.1 (rowWalk t (row.take i)) := by
  rw [List.take_add_one, h]
  unfold rowWalk
  rw [List.foldl_append]
  rfl
end At

namespace At
open L2 PyProof.Rows PySem.Spec PySem
/-! ### a drawn cup: a list of two ints that changes -/
def Cup (H : Hp) (c : Addr) : Prop := ∃ x d : Int, H c = some (.lst [.int x, .int d]) ∧ 0 ≤ x ∧ x < 2147483629 ∧ 0 ≤ d
/-- all but the cup stays -/
def ExtC (c : Addr) (H H' : Hp) : Prop := ∀ a o, a ≠ c → H a = some o → H' a = some o
theorem ExtC.refl (c : Addr) (H : Hp) : ExtC c H H := fun _ _ _ h => h
theorem ExtC.trans {c : Addr} {H1 H2 H3 : Hp} (e : ExtC c H1 H2) (f : ExtC c H2 H3) : ExtC c H1 H3 := fun a o n h => f a o n (e a o n h)
theorem ExtC.of {c : Addr} {H H' : Hp} (e : Ext H H') : ExtC c H H' := fun a o _ h => e a o h
theorem ExtC.new {c p : Addr} {H : Hp} {o : HO} (np : H p = none) : ExtC c H (upd H p o) := .of (Evl.Ex.new np)
theorem ExtC.set {c : Addr} {H : Hp} {o : HO} : ExtC c H (upd H c o) := fun a u n h => by rw [upd_ne n]; exact h
theorem Cup.ext {c : Addr} {H H' : Hp} (h : Cup H c) (e : Ext H H') : Cup H' c := by
  obtain ⟨x, d, h1, h2⟩ := h
  exact ⟨x, d, e _ _ h1, h2⟩
theorem Cup.new {c p : Addr} {H : Hp} {o : HO} (h : Cup H c) (np : H p = none) : Cup (upd H p o) c := h.ext (Evl.Ex.new np)
theorem ExtC.tup {c a : Addr} {H H' : Hp} {xs : List V} (e : ExtC c H H') (hc : Cup H c) (h : H a = some (.tup xs)) : H' a = some (.tup xs) := e a _ (fun z => by
  obtain ⟨x, d, h1, _⟩ := hc
  rw [z, h1] at h
  cases h) h
theorem ExtC.ins {c a C dx : Addr} {H H' : Hp} {fs : List (Str × V)} (e : ExtC c H H') (hc : Cup H c) (h : H a = some (.ins C dx fs)) : H' a = some (.ins C dx fs) := e a _ (fun z => by
  obtain ⟨x, d, h1, _⟩ := hc
  rw [z, h1] at h
  cases h) h
theorem ExtC.st {K : PySem.W.Frag} {c a : Addr} {H H' : Hp} {t : T3} (e : ExtC c H H') (hc : Cup H c) (h : StAt K H a t) : StAt K H' a t := by
  obtain ⟨dx, n, h1, h2⟩ := h
  exact ⟨dx, n, e.ins hc h1, e.tup hc h2⟩
theorem ExtC.pairs {c : Addr} {H H' : Hp} (e : ExtC c H H') (hc : Cup H c) : ∀ {rs : List Addr} {row : Row}, PairsAt H rs row → PairsAt H' rs row
  | [], [], _ => trivial
  | _ :: _, _ :: _, h => ⟨e.tup hc h.1, e.pairs hc h.2⟩
  | [], _ :: _, h => h
  | _ :: _, [], h => h
theorem ExtC.row {c a : Addr} {H H' : Hp} {row : Row} (e : ExtC c H H') (hc : Cup H c) (h : RowAt H a row) : RowAt H' a row := by
  obtain ⟨rs, h1, h2⟩ := h
  exact ⟨rs, e.tup hc h1, e.pairs hc h2⟩
theorem wd_at {ps : List P3} {i c : Nat} (h : (wd ps).cps[i]? = some c) : ∃ p : P3, ps[i]? = some p ∧ c = p.ch := by
  have h' : (ps.map P3.ch)[i]? = some c := by
    rw [← h]
    simp [wd]
  rw [List.getElem?_map] at h'
  cases z : ps[i]? with
  | none => rw [z] at h'; cases h'
  | some p => rw [z] at h'; exact ⟨p, rfl, (Option.some.inj h').symm⟩
theorem ne_cup {c l : Addr} {H : Hp} (h : Cup H c) (n : H l = none) : l ≠ c := fun z => by
  obtain ⟨x, d, h1, _⟩ := h
  rw [z, h1] at n
  cases n
def TOPB : Int := 10 ^ 13
theorem topb_mid : (TOPB + 1) * (TOPB + 1) + 2 ≤ MID := by decide +kernel
theorem top_sq {t a b : Int} (h0 : 0 ≤ a) (h1 : 0 ≤ b) (ha : a ≤ t + 1) (hb : b ≤ t + 1) : a * b ≤ (t + 1) * (t + 1) := Int.mul_le_mul ha hb h1 (by omega)
theorem top_mid {t : Int} (h0 : 1 ≤ t) (h : t ≤ TOPB) : (t + 1) * (t + 1) + 2 ≤ MID := by
  have := Int.mul_le_mul (show t + 1 ≤ TOPB + 1 by omega) (show t + 1 ≤ TOPB + 1 by omega) (by omega) (by decide)
  exact Int.le_trans (by omega) topb_mid
theorem mixed (x : Int) : 0 ≤ x.fmod 2147483629 ∧ x.fmod 2147483629 < 2147483629 := by
  (rw [Int.fmod_eq_emod_of_nonneg _ (by decide)])
  omega
theorem modI {x m : Int} (h : 0 < m) : 0 ≤ x.fmod m ∧ x.fmod m < m := by
  (rw [Int.fmod_eq_emod_of_nonneg _ (by omega)])
  exact ⟨Int.emod_nonneg _ (by omega), Int.emod_lt_of_pos _ h⟩
theorem cdivp {i j : Int} (h0 : 0 < j) (h1 : j ≤ MID) : CDivP i j := ⟨h0, PyProof.noPylong_of_log2 ((Nat.log2_lt (by omega)).mpr (Nat.lt_of_le_of_lt (show j.natAbs ≤ 2 ^ 8000 by
  have h2 : (j.natAbs : Int) ≤ 2 ^ 8000 := by
    rw [show (j.natAbs : Int) = j by omega]
    exact h1
  exact_mod_cast h2) (Nat.pow_lt_pow_right (by decide) (by decide))))⟩
end At

namespace At
open L2 PyProof.Rows PySem.Spec PySem
/-! ### text * int -/
def rStrMul : R2 := fun x y H Q => ∃ (z : Str) (n : Int), x = .str z ∧ y = .int n ∧ MulOk z n ∧ Q (.str (Txt.mul z n)) H
theorem op_strMul {X : Cx} : OpR X (binaryOp .Mult) rStrMul := by
  intro pins s0 τ H x y v u Q J rx ry h
  obtain ⟨z, n, rfl, rfl, ok, q⟩ := h
  obtain ⟨t1, rfl⟩ := rx
  obtain ⟨t2, rfl⟩ := ry
  exact SB.mul ok fun t' k => ⟨.str (Txt.mul z n), H, J.tok _, ⟨t', rfl⟩, q⟩
theorem flat_reps (z : Array Nat) : ∀ (n : Nat) (a : Array Nat), (List.replicate n z).foldl (· ++ ·) a = a ++ (List.replicate n z).foldl (· ++ ·) #[]
  | 0, a => by simp
  | n + 1, a => by
    rw [List.replicate_succ, List.foldl_cons, List.foldl_cons, flat_reps z n (a ++ z), flat_reps z n (#[] ++ z), Array.empty_append, Array.append_assoc]
theorem reps_wd (ps : List P3) : ∀ n : Nat, (List.replicate n (wd ps).cps).foldl (· ++ ·) #[] = (wd (rep n ps)).cps
  | 0 => rfl
  | n + 1 => by
    rw [List.replicate_succ, List.foldl_cons, flat_reps, reps_wd ps n, rep_succ, Array.empty_append]
    show (wd ps).cps ++ (wd (rep n ps)).cps = _
    simp [wd]
theorem mul_wd (ps : List P3) {n : Int} (h0 : 0 ≤ n) : Txt.mul (wd ps) n = wd (rep n.toNat ps) := by
  unfold Txt.mul
  by_cases h1 : n < 1
  · rw [if_pos h1, show n = 0 by omega]
    rfl
  · rw [if_neg h1]
    by_cases h2 : (n == 1 || (wd ps).length == 0) = true
    · rw [if_pos h2]
      rw [Bool.or_eq_true] at h2
      rcases h2 with h2 | h2
      · rw [eq_of_beq h2]
        show wd ps = wd (rep 1 ps)
        rw [rep_succ, rep_zero, List.append_nil]
      · have h3 : (wd ps).length = 0 := eq_of_beq h2
        have h4 : ps.length = 0 := by rw [← wd_size ps]; exact h3
        rw [List.length_eq_zero_iff.mp h4]
        have : ∀ k : Nat, rep k ([] : List P3) = [] := fun k => by
          induction k with
          | zero => rfl
          | succ k ih => rw [rep_succ, ih]; rfl
        rw [this]
    · rw [if_neg h2, reps_wd]
theorem mulok_wd {ps : List P3} {n : Int} (h : ps.length ≤ 1000) (h0 : 0 ≤ n) (h1 : n ≤ 1000) : MulOk (wd ps) n := by
  have hz : (wd ps).length = ps.length := wd_size ps
  refine ⟨by rw [Bool.or_eq_false_iff]; exact ⟨decide_eq_false (by omega), decide_eq_false (by omega)⟩, fun g1 _ => ?_, fun g1 _ => ?_⟩
  · rw [hz]
    have g2 : (2 ^ 63 - 1 : Int) / 1000 ≤ (2 ^ 63 - 1) / n := (Int.le_ediv_iff_mul_le (by omega)).mpr (by
      have g3 : (2 ^ 63 - 1 : Int) / 1000 * n ≤ (2 ^ 63 - 1 : Int) / 1000 * 1000 := Int.mul_le_mul_of_nonneg_left h1 (by decide)
      have g4 : (2 ^ 63 - 1 : Int) / 1000 * 1000 ≤ 2 ^ 63 - 1 := by decide
      omega)
    have g5 : (1000 : Int) ≤ (2 ^ 63 - 1 : Int) / 1000 := by decide
    omega
  · rw [hz]
    have g2 : ps.length * n.toNat ≤ 1000 * 1000 := Nat.mul_le_mul h (by omega)
    exact decide_eq_false (by
      have g3 : 1000 * 1000 ≤ sizeLine := by decide
      omega)
def rowFlat (row : Row) : List P3 := (row.map fun pm => rep pm.2.toNat pm.1).flatten
theorem wd_app (ps qs : List P3) : (wd ps).cps ++ (wd qs).cps = (wd (ps ++ qs)).cps := by simp [wd]
theorem fold_wd : ∀ (pss : List (List P3)) (qs : List P3), (pss.map wd).foldl (fun acc p => acc ++ (Str.ofString "").cps ++ p.cps) (wd qs).cps = (wd (qs ++ pss.flatten)).cps
  | [], qs => by rw [List.flatten_nil, List.append_nil]; rfl
  | ps :: pss, qs => by
    have e0 : (Str.ofString "").cps = #[] := by decide +kernel
    rw [List.map_cons, List.foldl_cons, e0, Array.append_empty, wd_app, ← e0, fold_wd pss (qs ++ ps), List.flatten_cons, List.append_assoc]
theorem join_wd (pss : List (List P3)) : Txt.join ("" : Str) (pss.map wd) = wd pss.flatten := by
  cases pss with
  | nil => rfl
  | cons ps pss =>
    show (⟨(pss.map wd).foldl (fun acc p => acc ++ (Str.ofString "").cps ++ p.cps) (wd ps).cps⟩ : Str) = _
    rw [fold_wd]
    rfl
theorem go_join {K : PySem.W.Frag} {H : Hp} {Q : VK} {p : Addr} {pss : List (List P3)} (h : H p = some (.lst (pss.map fun ps => V.str (wd ps)))) (hn : pss.length ≤ 1000) (hl : ∀ ps ∈ pss, ps.length ≤ 16000) (q : Q (.str (wd pss.flatten)) H) :
    ∃ a p', ∃ ys : List Str, V.str ("" : Str) = .str a ∧ [V.ref p] = [.ref p'] ∧ (SqL K H p' (ys.map V.str) ∨ SqT K H p' (ys.map V.str)) ∧ (ys.map (·.length)).sum + ys.length * a.length ≤ 16777216 ∧ Q (.str (Txt.join a ys)) H := by
  refine ⟨"", p, pss.map wd, rfl, rfl, .inl (SqL.of (by rw [h, List.map_map]; rfl)), ?_, by rw [join_wd]; exact q⟩
  have e0 : Str.length ("" : Str) = 0 := by decide +kernel
  rw [e0, Nat.mul_zero, Nat.add_zero, List.map_map]
  have : ∀ (l : List (List P3)), (∀ ps ∈ l, ps.length ≤ 16000) → (l.map ((fun x : Str => x.length) ∘ wd)).sum ≤ l.length * 16000 := by
    intro l
    induction l with
    | nil => intro _; exact Nat.le_refl _
    | cons ps l ih =>
      intro h
      have h1 := ih fun x hx => h x (List.mem_cons_of_mem _ hx)
      have h2 := h ps List.mem_cons_self
      have h3 : (wd ps).length = ps.length := wd_size ps
      (rw [List.map_cons, List.sum_cons, List.length_cons, Nat.succ_mul])
      show (wd ps).length + _ ≤ _
      omega
  have h1 := this pss hl
  omega
end At

namespace At
/-- what is drawn: two sizes up to top + 1, the third up to its square and two more -/
def Sm (top : Int) (t : T3) : Prop := nat t.1 ≤ top + 1 ∧ nat t.2.1 ≤ top + 1 ∧ nat t.2.2 ≤ (top + 1) * (top + 1) + 2
/-- bounds that grow_fit with the turns -/
def Bd : Nat → Int
  | 0 => TOPB + 1
  | 1 => TOPB + 1
  | 2 => (TOPB + 1) * (TOPB + 1) + 2
  | n + 3 => 2 * Bd (n + 1) * Bd (n + 2)
theorem bd_pos : ∀ n, 2 ≤ Bd n
  | 0 => by decide +kernel
  | 1 => by decide +kernel
  | 2 => by decide +kernel
  | n + 3 => by
    have a := bd_pos (n + 1)
    have b := bd_pos (n + 2)
    show 2 ≤ 2 * Bd (n + 1) * Bd (n + 2)
    have := Int.mul_le_mul (show 2 ≤ 2 * Bd (n + 1) by omega) (show 1 ≤ Bd (n + 2) by omega) (by decide) (by omega)
    omega
theorem bd_le : ∀ n, Bd n ≤ Bd (n + 1)
  | 0 => by decide +kernel
  | 1 => by decide +kernel
  | n + 2 => by
    have a := bd_pos (n + 1)
    have b := bd_pos (n + 2)
    show Bd (n + 2) ≤ 2 * Bd (n + 1) * Bd (n + 2)
    have := Int.mul_le_mul_of_nonneg_right (show 1 ≤ 2 * Bd (n + 1) by omega) (show 0 ≤ Bd (n + 2) by omega)
    omega
/-- in some order: by which tie has the least bound, which the greatest -/
def Fit (n : Nat) (t : T3) : Prop := ∃ p q r : P3, p ≠ q ∧ q ≠ r ∧ p ≠ r ∧ nat (opp p t) ≤ Bd n ∧ nat (opp q t) ≤ Bd (n + 1) ∧ nat (opp r t) ≤ Bd (n + 2)
theorem push_fit {u v w a b c d : Int} (hu : nat u ≤ a) (hv : nat v ≤ b) (hw : nat w ≤ c) (h : c + a * b ≤ d) : nat (push u v w) ≤ d := by
  have h1 : nat (u * v) = nat u * nat v := by
    unfold nat
    by_cases h1 : u < 0 <;> by_cases h2 : v < 0
    · rw [if_pos h1, if_pos h2, if_neg (by have := Int.mul_pos_of_neg_of_neg h1 h2; omega), Int.neg_mul_neg]
    · by_cases h3 : v = 0
      · subst h3; simp
      · rw [if_pos h1, if_neg h2, if_pos (Int.mul_neg_of_neg_of_pos h1 (by omega)), Int.neg_mul]
    · by_cases h3 : u = 0
      · subst h3; simp
      · rw [if_neg h1, if_pos h2, if_pos (Int.mul_neg_of_pos_of_neg (by omega) h2), Int.mul_neg]
    · rw [if_neg h1, if_neg h2, if_neg (by have := Int.mul_nonneg (show 0 ≤ u by omega) (show 0 ≤ v by omega); omega)]
  have h2 : nat u * nat v ≤ a * b := Int.mul_le_mul hu hv (nat_nonneg v) (Int.le_trans (nat_nonneg u) hu)
  rw [← h1] at h2
  have h3 := nat_nonneg (u * v)
  unfold nat push at *
  split
  · split <;> split at h2 <;> split at hw <;> omega
  · split
    · split <;> split at h2 <;> split at hw <;> omega
    · omega
theorem opp_turn (p q : P3) (t : T3) (h : p ≠ q) : nat (opp q (turn p t)) = nat (opp q t) := by
  obtain ⟨x, y, z⟩ := t
  cases p <;> cases q <;> first | exact absurd rfl h | exact nat_neg _
theorem opp_self (p q r : P3) (t : T3) (h1 : p ≠ q) (h2 : q ≠ r) (h3 : p ≠ r) : ∃ u v, opp p (turn p t) = push u v (opp p t) ∧ ((nat u = nat (opp q t) ∧ nat v = nat (opp r t)) ∨ (nat u = nat (opp r t) ∧ nat v = nat (opp q t))) := by
  obtain ⟨x, y, z⟩ := t
  cases p <;> cases q <;> cases r <;> first
    | exact absurd rfl h1
    | exact absurd rfl h2
    | exact absurd rfl h3
    | exact ⟨_, _, rfl, .inl ⟨rfl, rfl⟩⟩
    | exact ⟨_, _, rfl, .inr ⟨rfl, rfl⟩⟩
theorem grow_fit {p q r : P3} {t : T3} {a b c d : Int} (h1 : p ≠ q) (h2 : q ≠ r) (h3 : p ≠ r) (hp : nat (opp p t) ≤ c) (hq : nat (opp q t) ≤ a) (hr : nat (opp r t) ≤ b) (h : c + a * b ≤ d) : nat (opp p (turn p t)) ≤ d := by
  obtain ⟨u, v, e, k⟩ := opp_self p q r t h1 h2 h3
  rw [e]
  rcases k with ⟨k1, k2⟩ | ⟨k1, k2⟩
  · exact push_fit (by rw [k1]; exact hq) (by rw [k2]; exact hr) hp h
  · exact push_fit (by rw [k1]; exact hr) (by rw [k2]; exact hq) hp (by rw [Int.mul_comm]; exact h)
theorem Fit.turn {n : Nat} {t : T3} (s : P3) (h : Fit n t) : Fit (n + 1) (turn s t) := by
  obtain ⟨p, q, r, n1, n2, n3, hp, hq, hr⟩ := h
  have b0 := bd_pos n
  have b1 := bd_pos (n + 1)
  have b2 := bd_pos (n + 2)
  have l0 := bd_le n
  have l1 : Bd (n + 1) ≤ Bd (n + 2) := bd_le (n + 1)
  have top : Bd (n + 1 + 2) = 2 * Bd (n + 1) * Bd (n + 2) := rfl
  have e : 2 * Bd (n + 1) * Bd (n + 2) = Bd (n + 1) * Bd (n + 2) + Bd (n + 1) * Bd (n + 2) := by rw [Int.mul_assoc]; omega
  have m1 : Bd (n + 2) ≤ Bd (n + 1) * Bd (n + 2) := by
    have := Int.mul_le_mul_of_nonneg_right (show 1 ≤ Bd (n + 1) by omega) (show 0 ≤ Bd (n + 2) by omega)
    omega
  have m2 : Bd n * Bd (n + 2) ≤ Bd (n + 1) * Bd (n + 2) := Int.mul_le_mul_of_nonneg_right l0 (by omega)
  have m3 : Bd n * Bd (n + 1) ≤ Bd (n + 1) * Bd (n + 2) := by
    rw [Int.mul_comm (Bd (n + 1))]
    exact Int.mul_le_mul (by omega) (Int.le_refl _) (by omega) (by omega)
  have third : s = p ∨ s = q ∨ s = r := by cases s <;> cases p <;> cases q <;> cases r <;> simp_all
  rcases third with rfl | rfl | rfl
  · exact ⟨q, r, s, n2, n3.symm, n1.symm, by rw [opp_turn s q t n1]; exact hq, by rw [opp_turn s r t n3]; exact hr, grow_fit n1 n2 n3 hp hq hr (by omega)⟩
  · exact ⟨p, r, s, n3, n2.symm, n1, by rw [opp_turn s p t n1.symm]; omega, by rw [opp_turn s r t n2]; exact hr, grow_fit n1.symm n3 n2 hq hp hr (by omega)⟩
  · exact ⟨p, q, s, n1, n2, n3, by rw [opp_turn s p t n3.symm]; omega, by rw [opp_turn s q t n2.symm]; exact Int.le_trans hq l1, grow_fit n3.symm n1 n2.symm hr hp hq (by omega)⟩
theorem Fit.walk : ∀ (ps : List P3) {n : Nat} {t : T3}, Fit n t → Fit (n + ps.length) (walk t ps)
  | [], _, _, h => h
  | p :: ps, n, t, h => by
    have := Fit.walk ps (h.turn p)
    rw [walk_cons, List.length_cons, show n + (ps.length + 1) = n + 1 + ps.length by omega]
    exact this
theorem bd_mono {m n : Nat} (h : m ≤ n) : Bd m ≤ Bd n := by
  induction h with
  | refl => exact Int.le_refl _
  | step _ ih => exact Int.le_trans ih (bd_le _)
theorem bd_gr : Bd 7 ≤ GR := by decide +kernel
theorem Fit.big {n : Nat} {t : T3} (h : Fit n t) (hn : n ≤ 5) : big t ≤ GR := by
  obtain ⟨p, q, r, n1, n2, n3, hp, hq, hr⟩ := h
  have a := Int.le_trans hp (Int.le_trans (bd_mono (show n ≤ 7 by omega)) bd_gr)
  have b := Int.le_trans hq (Int.le_trans (bd_mono (show n + 1 ≤ 7 by omega)) bd_gr)
  have c := Int.le_trans hr (Int.le_trans (bd_mono (show n + 2 ≤ 7 by omega)) bd_gr)
  obtain ⟨x, y, z⟩ := t
  refine big_le.mpr ?_
  cases p <;> cases q <;> cases r <;> first
    | exact absurd rfl n1
    | exact absurd rfl n2
    | exact absurd rfl n3
    | exact ⟨c, a, b⟩
    | exact ⟨b, a, c⟩
    | exact ⟨c, b, a⟩
    | exact ⟨a, b, c⟩
    | exact ⟨b, c, a⟩
    | exact ⟨a, c, b⟩
theorem Sm.fit {top : Int} {t : T3} (h0 : 1 ≤ top) (h1 : top ≤ TOPB) (h : Sm top t) : Fit 0 t := by
  obtain ⟨x, y, z⟩ := t
  obtain ⟨a, b, c⟩ := h
  have e := Int.mul_le_mul (show top + 1 ≤ TOPB + 1 by omega) (show top + 1 ≤ TOPB + 1 by omega) (by omega) (by decide)
  exact ⟨.c, .a, .b, by decide, by decide, by decide, Int.le_trans a (show top + 1 ≤ TOPB + 1 by omega), Int.le_trans b (show top + 1 ≤ TOPB + 1 by omega), Int.le_trans c (show (top + 1) * (top + 1) + 2 ≤ (TOPB + 1) * (TOPB + 1) + 2 by omega)⟩
end At

namespace At
/-! ### the same bounds for any greatest draw T -/
def BdG (T : Int) : Nat → Int
  | 0 => T + 1
  | 1 => T + 1
  | 2 => (T + 1) * (T + 1) + 2
  | n + 3 => 2 * BdG T (n + 1) * BdG T (n + 2)
theorem bg_pos {T : Int} (hT : 1 ≤ T) : ∀ n, 2 ≤ BdG T n
  | 0 => show 2 ≤ T + 1 by omega
  | 1 => show 2 ≤ T + 1 by omega
  | 2 => by
    show 2 ≤ (T + 1) * (T + 1) + 2
    have := Int.mul_nonneg (show 0 ≤ T + 1 by omega) (show 0 ≤ T + 1 by omega)
    omega
  | n + 3 => by
    have a := bg_pos hT (n + 1)
    have b := bg_pos hT (n + 2)
    show 2 ≤ 2 * BdG T (n + 1) * BdG T (n + 2)
    have := Int.mul_le_mul (show 2 ≤ 2 * BdG T (n + 1) by omega) (show 1 ≤ BdG T (n + 2) by omega) (by decide) (by omega)
    omega
theorem bg_le {T : Int} (hT : 1 ≤ T) : ∀ n, BdG T n ≤ BdG T (n + 1)
  | 0 => Int.le_refl _
  | 1 => by
    show T + 1 ≤ (T + 1) * (T + 1) + 2
    have := Int.mul_le_mul_of_nonneg_right (show 1 ≤ T + 1 by omega) (show 0 ≤ T + 1 by omega)
    omega
  | n + 2 => by
    have a := bg_pos hT (n + 1)
    have b := bg_pos hT (n + 2)
    show BdG T (n + 2) ≤ 2 * BdG T (n + 1) * BdG T (n + 2)
    have := Int.mul_le_mul_of_nonneg_right (show 1 ≤ 2 * BdG T (n + 1) by omega) (show 0 ≤ BdG T (n + 2) by omega)
    omega
theorem bg_mono {T : Int} (hT : 1 ≤ T) {m n : Nat} (h : m ≤ n) : BdG T m ≤ BdG T n := by
  induction h with
  | refl => exact Int.le_refl _
  | step _ ih => exact Int.le_trans ih (bg_le hT _)
theorem bg_top {T U : Int} (hT : 1 ≤ T) (h : T ≤ U) : ∀ n, BdG T n ≤ BdG U n
  | 0 => show T + 1 ≤ U + 1 by omega
  | 1 => show T + 1 ≤ U + 1 by omega
  | 2 => by
    show (T + 1) * (T + 1) + 2 ≤ (U + 1) * (U + 1) + 2
    have := Int.mul_le_mul (show T + 1 ≤ U + 1 by omega) (show T + 1 ≤ U + 1 by omega) (by omega) (by omega)
    omega
  | n + 3 => by
    have a := bg_top hT h (n + 1)
    have b := bg_top hT h (n + 2)
    have p := bg_pos hT (n + 1)
    have q := bg_pos hT (n + 2)
    exact Int.mul_le_mul (by omega) b (by omega) (by omega)
def FitG (T : Int) (n : Nat) (t : T3) : Prop := ∃ p q r : P3, p ≠ q ∧ q ≠ r ∧ p ≠ r ∧ nat (opp p t) ≤ BdG T n ∧ nat (opp q t) ≤ BdG T (n + 1) ∧ nat (opp r t) ≤ BdG T (n + 2)
theorem FitG.turn {T : Int} (hT : 1 ≤ T) {n : Nat} {t : T3} (s : P3) (h : FitG T n t) : FitG T (n + 1) (turn s t) := by
  obtain ⟨p, q, r, n1, n2, n3, hp, hq, hr⟩ := h
  have b0 := bg_pos hT n
  have b1 := bg_pos hT (n + 1)
  have b2 := bg_pos hT (n + 2)
  have l0 := bg_le hT n
  have l1 : BdG T (n + 1) ≤ BdG T (n + 2) := bg_le hT (n + 1)
  have top : BdG T (n + 1 + 2) = 2 * BdG T (n + 1) * BdG T (n + 2) := rfl
  have e : 2 * BdG T (n + 1) * BdG T (n + 2) = BdG T (n + 1) * BdG T (n + 2) + BdG T (n + 1) * BdG T (n + 2) := by rw [Int.mul_assoc]; omega
  have m1 : BdG T (n + 2) ≤ BdG T (n + 1) * BdG T (n + 2) := by
    have := Int.mul_le_mul_of_nonneg_right (show 1 ≤ BdG T (n + 1) by omega) (show 0 ≤ BdG T (n + 2) by omega)
    omega
  have m2 : BdG T n * BdG T (n + 2) ≤ BdG T (n + 1) * BdG T (n + 2) := Int.mul_le_mul_of_nonneg_right l0 (by omega)
  have m3 : BdG T n * BdG T (n + 1) ≤ BdG T (n + 1) * BdG T (n + 2) := by
    rw [Int.mul_comm (BdG T (n + 1))]
    exact Int.mul_le_mul (by omega) (Int.le_refl _) (by omega) (by omega)
  have third : s = p ∨ s = q ∨ s = r := by cases s <;> cases p <;> cases q <;> cases r <;> simp_all
  rcases third with rfl | rfl | rfl
  · exact ⟨q, r, s, n2, n3.symm, n1.symm, by rw [opp_turn s q t n1]; exact hq, by rw [opp_turn s r t n3]; exact hr, grow_fit n1 n2 n3 hp hq hr (by omega)⟩
  · exact ⟨p, r, s, n3, n2.symm, n1, by rw [opp_turn s p t n1.symm]; omega, by rw [opp_turn s r t n2]; exact hr, grow_fit n1.symm n3 n2 hq hp hr (by omega)⟩
  · exact ⟨p, q, s, n1, n2, n3, by rw [opp_turn s p t n3.symm]; omega, by rw [opp_turn s q t n2.symm]; exact Int.le_trans hq l1, grow_fit n3.symm n1 n2.symm hr hp hq (by omega)⟩
theorem FitG.walk {T : Int} (hT : 1 ≤ T) : ∀ (ps : List P3) {n : Nat} {t : T3}, FitG T n t → FitG T (n + ps.length) (walk t ps)
  | [], _, _, h => h
  | p :: ps, n, t, h => by
    have := FitG.walk hT ps (h.turn hT p)
    rw [walk_cons, List.length_cons, show n + (ps.length + 1) = n + 1 + ps.length by omega]
    exact this
theorem FitG.le {T U : Int} (hT : 1 ≤ T) (hU : T ≤ U) {m n : Nat} {t : T3} (h : FitG T m t) (hn : m ≤ n) : big t ≤ BdG U (n + 2) := by
  obtain ⟨p, q, r, n1, n2, n3, hp, hq, hr⟩ := h
  have up : ∀ k, k ≤ n + 2 → BdG T k ≤ BdG U (n + 2) := fun k hk => Int.le_trans (bg_mono hT hk) (bg_top hT hU _)
  have a := Int.le_trans hp (up m (by omega))
  have b := Int.le_trans hq (up (m + 1) (by omega))
  have c := Int.le_trans hr (up (m + 2) (by omega))
  obtain ⟨x, y, z⟩ := t
  refine big_le.mpr ?_
  cases p <;> cases q <;> cases r <;> first
    | exact absurd rfl n1
    | exact absurd rfl n2
    | exact absurd rfl n3
    | exact ⟨c, a, b⟩
    | exact ⟨b, a, c⟩
    | exact ⟨c, b, a⟩
    | exact ⟨a, b, c⟩
    | exact ⟨b, c, a⟩
    | exact ⟨a, c, b⟩
theorem bg6 : BdG 6 12 ≤ GR := by decide +kernel
theorem Sm.fitG {top : Int} {t : T3} (h0 : 1 ≤ top) (h : Sm top t) : FitG top 0 t := by
  obtain ⟨x, y, z⟩ := t
  obtain ⟨a, b, c⟩ := h
  exact ⟨.c, .a, .b, by decide, by decide, by decide, a, b, c⟩
end At

namespace At
open L2 PyProof.Rows PySem.Spec PySem
/-! ### what is drawn: letters, orders -/
def chP (c : Nat) : P3 := if c = 97 then .a else if c = 98 then .b else .c
theorem chP_ch (p : P3) : chP p.ch = p := by cases p <;> rfl
theorem occ (p : P3) : ∃ rest, Builtin.Str.occurrences ("abc" : Str) ⟨#[p.ch]⟩ 0 (Str.length ("abc" : Str)) 1 = p.i.toNat :: rest := by
  cases p
  · exact ⟨[], by decide +kernel⟩
  · exact ⟨[], by decide +kernel⟩
  · exact ⟨[], by decide +kernel⟩
theorem go_yes {σ : L2.St} {H : Hp} {QT : Bool → Hp → Prop} (h : QT true H) : tYes σ H QT := h
theorem ExtC.mut {c D : Addr} {H H' : Hp} {o : HO} (e : ExtC c H H') (n : H D = none) : ExtC c H (upd H' D o) := fun a u na h => by
  have : a ≠ D := fun z => by rw [z, n] at h; cases h
  rw [upd_ne this]
  exact e a u na h
theorem Cup.past {c D : Addr} {H : Hp} {o : HO} (h : Cup H c) (n : D ≠ c) : Cup (upd H D o) c := by
  obtain ⟨x, d, h1, h2⟩ := h
  exact ⟨x, d, by rw [upd_ne n.symm]; exact h1, h2⟩
theorem abc_of {x : V} (h : x ∈ [V.str ("a" : Str), V.str ("b" : Str), V.str ("c" : Str)]) : ∃ s : P3, x = .str (wd [s]) := by
  simp only [List.mem_cons, List.not_mem_nil, or_false] at h
  rcases h with rfl | rfl | rfl
  · exact ⟨.a, rfl⟩
  · exact ⟨.b, rfl⟩
  · exact ⟨.c, rfl⟩
theorem ones (ps : List P3) : (ps.map fun s => [s]).flatten = ps := by
  induction ps with
  | nil => rfl
  | cons p ps ih => rw [List.map_cons, List.flatten_cons, ih]; rfl
/-- the three orders that are drawn -/
def Ord (ns : List P3) : Prop := ns = [.a, .b, .c] ∨ ns = [.b, .c, .a] ∨ ns = [.c, .a, .b]
theorem ord_of {x : V} (h : x ∈ [V.str ("abc" : Str), V.str ("bca" : Str), V.str ("cab" : Str)]) : ∃ ns, x = .str (wd ns) ∧ Ord ns := by
  simp only [List.mem_cons, List.not_mem_nil, or_false] at h
  rcases h with rfl | rfl | rfl
  · exact ⟨[.a, .b, .c], rfl, .inl rfl⟩
  · exact ⟨[.b, .c, .a], rfl, .inr (.inl rfl)⟩
  · exact ⟨[.c, .a, .b], rfl, .inr (.inr rfl)⟩
theorem ord_fitG {ns : List P3} {top : Int} {t : T3} (o : Ord ns) (sm : Sm top t) : ∃ u : T3, FitG top 0 u ∧ (wd ns).cps.toList.map (fun c => V.int (go (chP c) t)) = tv u := by
  obtain ⟨x, y, z⟩ := t
  obtain ⟨a, b, c⟩ := sm
  rcases o with rfl | rfl | rfl
  · exact ⟨(x, y, z), ⟨.c, .a, .b, by decide, by decide, by decide, a, b, c⟩, rfl⟩
  · exact ⟨(y, z, x), ⟨.c, .b, .a, by decide, by decide, by decide, b, a, c⟩, rfl⟩
  · exact ⟨(z, x, y), ⟨.a, .b, .c, by decide, by decide, by decide, a, b, c⟩, rfl⟩
theorem fitG_huge {top : Int} {n : Nat} {t : T3} (h : FitG top n t) (h1 : 1 ≤ top) (h2 : top ≤ TOPB) (hn : n ≤ 5) : big t ≤ GR :=
  Int.le_trans (h.le h1 h2 hn) (by decide +kernel)
end At

namespace At
open L2 PyProof.Rows PySem.Spec PySem
/-! ### rows of turns, letter by letter -/
theorem rowFlat_cons (pm : List P3 × Int) (row : Row) : rowFlat (pm :: row) = rep pm.2.toNat pm.1 ++ rowFlat row := rfl
theorem rowFlat_app (r s : Row) : rowFlat (r ++ s) = rowFlat r ++ rowFlat s := by
  unfold rowFlat
  rw [List.map_append, List.flatten_append]
theorem rowWalk_flat : ∀ (row : Row) (t : T3), rowWalk t row = walk t (rowFlat row)
  | [], _ => rfl
  | pm :: row, t => by
    rw [rowFlat_cons, walk_append, walk_rep, ← rowWalk_flat row]
    rfl
theorem rowLen_flat : ∀ (row : Row), (∀ pm ∈ row, 0 ≤ pm.2) → rowLen row = ((rowFlat row).length : Nat)
  | [], _ => rfl
  | pm :: row, h => by
    have ih := rowLen_flat row fun q hq => h q (List.mem_cons_of_mem _ hq)
    have h0 := h pm List.mem_cons_self
    rw [rowFlat_cons, List.length_append, rep_length]
    show (pm.1.length : Int) * pm.2 + rowLen row = _
    rw [ih]
    obtain ⟨n, e⟩ : ∃ n : Nat, pm.2 = (n : Int) := ⟨pm.2.toNat, by omega⟩
    rw [e, Int.toNat_natCast, Int.natCast_add, Int.natCast_mul, Int.mul_comm]
def backPair (pm : List P3 × Int) : List P3 × Int := (pm.1.reverse, pm.2)
def backRow (row : Row) : Row := row.reverse.map backPair
theorem rep_rev (ps : List P3) : ∀ n : Nat, rep n ps.reverse = (rep n ps).reverse
  | 0 => rfl
  | n + 1 => by rw [rep_succ, rep_succ', List.reverse_append, rep_rev ps n]
theorem flat_back : ∀ (row : Row), rowFlat (backRow row) = (rowFlat row).reverse
  | [] => rfl
  | pm :: row => by
    have e : backRow (pm :: row) = backRow row ++ [backPair pm] := by
      unfold backRow
      rw [List.reverse_cons, List.map_append]
      rfl
    rw [e, rowFlat_app, flat_back row, rowFlat_cons pm row, List.reverse_append, ← rep_rev]
    show _ ++ (rep pm.2.toNat pm.1.reverse ++ []) = _
    rw [List.append_nil]
theorem flat_take (row : Row) (i : Nat) : ∃ j, j ≤ (rowFlat row).length ∧ rowFlat (row.take i) = (rowFlat row).take j := by
  have e : rowFlat row = rowFlat (row.take i) ++ rowFlat (row.drop i) := by rw [← rowFlat_app, List.take_append_drop]
  refine ⟨(rowFlat (row.take i)).length, ?_, ?_⟩
  · rw [e, List.length_append]; omega
  · rw [e, List.take_left]
theorem walk_back_part (L : List P3) (t : T3) (j : Nat) : walk (walk t L) (L.reverse.take j) = walk t (L.take (L.length - j)) := by
  rw [List.take_reverse]
  have e : walk t L = walk (walk t (L.take (L.length - j))) (L.drop (L.length - j)) := by rw [← walk_append, List.take_append_drop]
  rw [e, walk_back]
theorem rowWalk_back (row : Row) (t : T3) : rowWalk (rowWalk t row) (backRow row) = t := by
  rw [rowWalk_flat, rowWalk_flat, flat_back, walk_back]
/-- all on the way along a row, or back along it -/
theorem row_parts {row : Row} {t : T3} {P : T3 → Prop} (h : ∀ j, j ≤ (rowFlat row).length → P (walk t ((rowFlat row).take j))) (i : Nat) : P (rowWalk t (row.take i)) := by
  obtain ⟨j, hj, e⟩ := flat_take row i
  rw [rowWalk_flat, e]
  exact h j hj
theorem row_backs {row : Row} {t : T3} {P : T3 → Prop} (h : ∀ j, j ≤ (rowFlat row).length → P (walk t ((rowFlat row).take j))) (i : Nat) : P (rowWalk (rowWalk t row) ((backRow row).take i)) := by
  obtain ⟨j, hj, e⟩ := flat_take (backRow row) i
  rw [rowWalk_flat ((backRow row).take i), e, flat_back, rowWalk_flat row, walk_back_part]
  exact h _ (by omega)
theorem flat_len {k : Nat} : ∀ (row : Row), (∀ pm ∈ row, pm.1.length * pm.2.toNat ≤ k) → (rowFlat row).length ≤ row.length * k
  | [], _ => Nat.zero_le _
  | pm :: row, h => by
    have ih := flat_len row fun q hq => h q (List.mem_cons_of_mem _ hq)
    have h0 := h pm List.mem_cons_self
    rw [rowFlat_cons, List.length_append, rep_length, List.length_cons, Nat.succ_mul, Nat.mul_comm]
    omega
theorem rev_wd (ps : List P3) : (⟨(wd ps).cps.toList.reverse.toArray⟩ : Str) = wd ps.reverse := by
  simp [wd, List.map_reverse]
theorem PairsAt.keep {H H' : Hp} (k : ∀ a xs, H a = some (.tup xs) → H' a = some (.tup xs)) : ∀ {rs : List Addr} {row : Row}, PairsAt H rs row → PairsAt H' rs row
  | [], [], _ => trivial
  | _ :: _, _ :: _, h => ⟨k _ _ h.1, PairsAt.keep k h.2⟩
  | [], _ :: _, h => h
  | _ :: _, [], h => h
theorem PairsAt.snoc {H : Hp} {r : Addr} {pm : List P3 × Int} (hr : PairAt H r pm) : ∀ {rs : List Addr} {row : Row}, PairsAt H rs row → PairsAt H (rs ++ [r]) (row ++ [pm])
  | [], [], _ => ⟨hr, trivial⟩
  | _ :: _, _ :: _, h => ⟨h.1, PairsAt.snoc hr h.2⟩
  | [], _ :: _, h => h.elim
  | _ :: _, [], h => h.elim
theorem PairsAt.take {H : Hp} : ∀ (n : Nat) {rs : List Addr} {row : Row}, PairsAt H rs row → PairsAt H (rs.take n) (row.take n)
  | 0, _, _, _ => trivial
  | n + 1, [], [], _ => trivial
  | n + 1, _ :: _, _ :: _, h => ⟨h.1, PairsAt.take n h.2⟩
  | n + 1, [], _ :: _, h => h.elim
  | n + 1, _ :: _, [], h => h.elim
theorem PairsAt.rev {H : Hp} : ∀ {rs : List Addr} {row : Row}, PairsAt H rs row → PairsAt H rs.reverse row.reverse
  | [], [], _ => trivial
  | r :: rs, pm :: row, h => by
    (rw [List.reverse_cons, List.reverse_cons])
    exact PairsAt.snoc h.1 (PairsAt.rev h.2)
  | [], _ :: _, h => h.elim
  | _ :: _, [], h => h.elim
/-- "".join of words, its answer told -/
theorem join_is (K : PySem.W.Frag) {H : Hp} {p : Addr} {pss : List (List P3)} (h : H p = some (.lst (pss.map fun ps => V.str (wd ps)))) (hn : pss.length ≤ 1000) (hl : ∀ ps ∈ pss, ps.length ≤ 16000) :
    ∃ a p', ∃ ys : List Str, V.str ("" : Str) = .str a ∧ [V.ref p] = [.ref p'] ∧ (SqL K H p' (ys.map V.str) ∨ SqT K H p' (ys.map V.str)) ∧ (ys.map (·.length)).sum + ys.length * a.length ≤ 16777216 ∧ Txt.join a ys = wd pss.flatten := by
  obtain ⟨a, p', ys, f1, f2, f3, f4, f5⟩ := go_join (K := K) (Q := fun v _ => v = .str (wd pss.flatten)) h hn hl rfl
  exact ⟨a, p', ys, f1, f2, f3, f4, V.str.inj f5⟩
theorem PairsAt.past {H : Hp} {l : Addr} {xs ys : List V} {rs : List Addr} {row : Row} (hl : H l = some (.lst xs)) (h : PairsAt H rs row) : PairsAt (upd H l (.lst ys)) rs row :=
  h.keep fun a zs e => by
    rw [upd_ne (fun z => by rw [z, hl] at e; cases e)]
    exact e
/-- what stands for the pair at a place of a row -/
def atRow (row : Row) (f : List P3 × Int → V) (i : Nat) : V := match row[i]? with
  | some pm => f pm
  | none => .non
theorem atRow_at {row : Row} {f : List P3 × Int → V} {i : Nat} {pm : List P3 × Int} (h : row[i]? = some pm) : atRow row f i = f pm := by
  unfold atRow
  rw [h]
theorem range_map (row : Row) (n : Nat) (e : n = row.length) (f : List P3 × Int → V) : (List.range n).map (atRow row f) = row.map f := by
  subst e
  (refine List.ext_getElem (by simp) fun i h1 h2 => ?_)
  have hi : i < row.length := by simpa using h2
  rw [List.getElem_map, List.getElem_map, List.getElem_range, atRow_at (List.getElem?_eq_getElem hi)]
end At

namespace At
open L2 PyProof.Rows PySem.Spec PySem
/-! ### triples compared -/
def dat3 (t : T3) : PyData := .tuple [.int t.1, .int t.2.1, .int t.2.2]
theorem dp3 {K : PySem.W.Frag} {H : Hp} {p : Addr} {t : T3} (h : H p = some (.tup (tv t))) : Dp K H (.ref p) (dat3 t) := .tup (SqT.of h) (dp_ints [t.1, t.2.1, t.2.2])
theorem eqv1 (s : T3) : PyData.eqv (dat3 s) (dat3 s) = true := by simp [PyData.eqv, PyData.eqvAll, dat3]
theorem shaped1 (s : T3) : SeqAt.shaped (dat3 s) = true := by
  unfold SeqAt.shaped dat3
  simp only [PyData.canLay0, PyData.depth, PyData.canLayAll0, PyData.depthAll]
  rfl
theorem shaped3 (s t v : T3) : SeqAt.shaped (.list [dat3 s, dat3 t, dat3 v]) = true := by
  unfold SeqAt.shaped dat3
  simp only [PyData.canLay0, PyData.depth, PyData.canLayAll0, PyData.depthAll]
  rfl
theorem eqv3 (s t v : T3) : PyData.eqv (.list [dat3 s, dat3 t, dat3 v]) (.list [dat3 s, dat3 t, dat3 v]) = true := by simp [PyData.eqv, PyData.eqvAll, dat3]
theorem dpl3 {K : PySem.W.Frag} {H : Hp} {l p q r : Addr} {s t v : T3} (h : H l = some (.lst [.ref p, .ref q, .ref r])) (hp : H p = some (.tup (tv s))) (hq : H q = some (.tup (tv t))) (hr : H r = some (.tup (tv v))) : Dp K H (.ref l) (.list [dat3 s, dat3 t, dat3 v]) := .lst (SqL.of h) (.cons (dp3 hp) (.cons (dp3 hq) (.cons (dp3 hr) .nil)))
theorem turn_twice (p : P3) (t : T3) : turn p (turn p t) = t := walk_back [p] t
theorem twice_wd (p : P3) : ((⟨#[p.ch]⟩ : Str) ++ (⟨#[p.ch]⟩ : Str)) = wd [p, p] := by cases p <;> rfl
theorem cut_one {xs : List V} (h : 1 ≤ xs.length) : cutV xs none (some 1) = xs.take 1 := by
  unfold cutV
  show (xs.drop 0).take (min (1 : Int).toNat xs.length - 0) = _
  rw [List.drop_zero, show min (1 : Int).toNat xs.length - 0 = 1 from by
    show min 1 xs.length - 0 = 1
    omega]
theorem cut_part {n : Nat} (h : 2 ≤ n) : ¬ (HT.sIx n 0 none = 0 ∧ HT.sIx n n (some 1) = n) := by
  rintro ⟨_, e⟩
  have e : min (1 : Int).toNat n = n := e
  have : min 1 n = n := e
  omega
theorem mt2 {m : Int} (h : m ≤ 2) : m ≤ MT := Int.le_trans h (by decide +kernel)
theorem rowOk_small {row : Row} (hl : row.length ≤ 200) (h : ∀ pm ∈ row, 1 ≤ pm.1.length ∧ pm.1.length ≤ 4 ∧ 0 ≤ pm.2 ∧ pm.2 ≤ 2) : RowOk row :=
  ⟨hl, fun pm hpm => by
    obtain ⟨a, b, c, d⟩ := h pm hpm
    exact ⟨a, by omega, c, mt2 d⟩⟩
theorem backRow_len (row : Row) : (backRow row).length = row.length := by
  unfold backRow
  rw [List.length_map, List.length_reverse]
theorem rowOk_back {row : Row} (h : RowOk row) : RowOk (backRow row) :=
  ⟨by rw [backRow_len]; exact h.1, fun pm hpm => by
    obtain ⟨qm, hq, rfl⟩ := List.mem_map.mp hpm
    obtain ⟨a, b, c, d⟩ := h.2 qm (List.mem_reverse.mp hq)
    exact ⟨by show 1 ≤ qm.1.reverse.length; rw [List.length_reverse]; exact a, by show qm.1.reverse.length ≤ 12; rw [List.length_reverse]; exact b, c, d⟩⟩
theorem flat8 {row : Row} (h : ∀ pm ∈ row, 1 ≤ pm.1.length ∧ pm.1.length ≤ 4 ∧ 0 ≤ pm.2 ∧ pm.2 ≤ 2) : (rowFlat row).length ≤ row.length * 8 := flat_len row fun pm hpm => by
  obtain ⟨_, a, _, b⟩ := h pm hpm
  exact Nat.mul_le_mul a (show pm.2.toNat ≤ 2 by omega)
theorem le60 {ps : List P3} (h : ps.length ≤ 60000) : (wd ps).length ≤ sizeLine := by
  rw [show (wd ps).length = ps.length from wd_size ps, sizeLine_eq]
  omega
end At

namespace At
open L2 PyProof.Rows PySem.Spec PySem
/-! ### the law at its end -/
theorem sqL_ext {K : PySem.W.Frag} {H H' : Hp} {a : Addr} {xs : List V} (h : SqL K H a xs) (e : Ext H H') : SqL K H' a xs := by
  rcases h with h | h
  · refine .inl ?_
    rcases h with h | ⟨o, h⟩
    · exact .inl (e _ _ h)
    · exact .inr ⟨o, e _ _ h⟩
  · exact .inr h
theorem ext_cup {p : Addr} {H H2 H3 : Hp} (n : H p = none) (e : Ext H H2) (f : ExtC p H2 H3) : Ext H H3 := fun b o h => f b o (fun z => by rw [z, n] at h; cases h) (e b o h)
theorem most2 (L : Int) : 2 ≤ if (if 6 < L then 6 else L) > 2 then (if 6 < L then 6 else L) else 2 := by split <;> split <;> omega
theorem most6 (L : Int) : (if (if 6 < L then 6 else L) > 2 then (if 6 < L then 6 else L) else 2) ≤ 6 := by split <;> split <;> omega
theorem all_true (n : Nat) : ((List.range n).map fun _ => true).all id = true := by simp
end At

namespace At
open L2 PyProof.Rows PySem.Spec PySem
/-! ### words put together -/
theorem app_wd (ps qs : List P3) : (wd ps ++ wd qs : Str) = wd (ps ++ qs) := by
  show (⟨(wd ps).cps ++ (wd qs).cps⟩ : Str) = _
  rw [wd_app]
theorem adds {ps qs : List P3} (h : ps.length + qs.length ≤ 1000) : (wd ps).length + (wd qs).length ≤ sizeLine := by
  rw [show (wd ps).length = ps.length from wd_size ps, show (wd qs).length = qs.length from wd_size qs, sizeLine_eq]
  omega
theorem empty_wd : ("" : Str) = wd [] := rfl
theorem wd_nil {ps : List P3} (h : wd ps = ("" : Str)) : ps = [] := by
  have : (wd ps).cps.size = 0 := by rw [h]; rfl
  rw [wd_size] at this
  exact List.length_eq_zero_iff.mp this
/-- a word round one place, so often -/
theorem many_conj (w : List P3) (p : P3) (n : Nat) (t : T3) : many n (w ++ [p] ++ w.reverse) t = if n % 2 = 1 then walk t (w ++ [p] ++ w.reverse) else t := by
  rw [many_around, many_even]
  split
  · next h =>
    rw [h, walk_append, walk_append]
    rfl
  · next h =>
    have : n % 2 = 0 := by omega
    rw [this]
    show walk (walk t w) w.reverse = t
    rw [walk_back]
theorem many_id {ps : List P3} (h : ∀ t, walk t ps = t) : ∀ (n : Nat) (t : T3), many n ps t = t
  | 0, _ => rfl
  | n + 1, t => by
    rw [many_add, many_id h n]
    show walk t ps = t
    exact h t
theorem many_round_trip (w : List P3) (n : Nat) (t : T3) : many n (w ++ w.reverse) t = t := many_id (fun t => by rw [walk_append, walk_back]) n t
theorem walk_double (p : P3) (t : T3) : walk t [p, p] = t := turn_twice p t
theorem many_doubled (w : List P3) (p : P3) (n : Nat) (t : T3) : many n (w ++ [p] ++ [p]) t = many n w t := many_congr (fun t => by
  rw [List.append_assoc, walk_append]
  exact walk_double p _) n t
theorem many_back (w : List P3) (n : Nat) (t : T3) : many n w.reverse (many n w t) = t := by
  rw [← walk_rep, ← walk_rep, rep_rev, walk_back]
theorem fmod2 {m : Int} (h : 0 ≤ m) : m.fmod 2 = 1 ↔ m.toNat % 2 = 1 := by
  (rw [Int.fmod_eq_emod_of_nonneg _ (by decide)])
  omega
/-- a join of drawn letters: at D2 the letters so far -/
theorem letters_is (K : PySem.W.Frag) {H : Hp} {D : Addr} {pss : List P3} (h : H D = some (.lst (pss.map fun s => V.str (wd [s])))) (hn : pss.length ≤ 1000) :
    ∃ a p', ∃ ys : List Str, V.str ("" : Str) = .str a ∧ [V.ref D] = [.ref p'] ∧ (SqL K H p' (ys.map V.str) ∨ SqT K H p' (ys.map V.str)) ∧ (ys.map (·.length)).sum + ys.length * a.length ≤ 16777216 ∧ Txt.join a ys = wd pss := by
  have hJ : H D = some (.lst ((pss.map fun s => [s]).map fun ps => V.str (wd ps))) := by
    rw [h, List.map_map]
    rfl
  obtain ⟨a', p', ys, f1, f2, f3, f4, f5⟩ := join_is K hJ (by rw [List.length_map]; omega) (fun ps hps => by
    obtain ⟨s, _, rfl⟩ := List.mem_map.mp hps
    exact Nat.le_of_ble_eq_true rfl)
  exact ⟨a', p', ys, f1, f2, f3, f4, by rw [f5, ones]⟩
end At

namespace At
open L2 PyProof.Rows PySem.Spec PySem
/-! ### going down: how many turns, and what stays -/
inductive Way : Nat → T3 → T3 → Prop
  | here {t : T3} (h : ∀ p, ¬ Down p t) : Way 0 t t
  | down {n : Nat} {p : P3} {t b : T3} (d : Down p t) (w : Way n (turn p t) b) : Way (n + 1) t b
theorem Down.all {p : P3} {t : T3} (d : Down p t) (s : P3) : nat (opp s t) ≤ nat (opp p t) := by
  have h := d.top
  obtain ⟨x, y, z⟩ := t
  cases p <;> cases s <;> simp only [opp, co, go] at h ⊢ <;> omega
theorem Down.one {p q : P3} {t : T3} (a : Down p t) (b : Down q t) : q = p := top_only a.all b
theorem Down.pos {p : P3} {t : T3} (d : Down p t) : 0 < nat (opp p t) := by
  have := d.top.1
  have := d.2.1
  omega
theorem Down.other {p q : P3} {t : T3} (d : Down p t) (n : p ≠ q) : Down q (turn q t) := (beyond_turn (G := 0) ⟨d.pos, d⟩ n).2
theorem way_turn {n : Nat} {t b : T3} (q : P3) (w : Way n t b) : ∃ m c, m ≤ n + 1 ∧ Way m (turn q t) c := by
  by_cases h : ∃ p, Down p (turn q t)
  · obtain ⟨p, d⟩ := h
    by_cases e : p = q
    · subst e
      exact ⟨n + 1, b, Nat.le_refl _, .down d (by rw [turn_twice]; exact w)⟩
    · have dq := d.other e
      rw [turn_twice] at dq
      cases w with
      | here no => exact absurd dq (no q)
      | @down m p' _ _ d' w' =>
        have := d'.one dq
        subst this
        exact ⟨m, b, by omega, w'⟩
  · exact ⟨0, _, by omega, .here fun p d => h ⟨p, d⟩⟩
theorem way_walk : ∀ (ps : List P3) {n : Nat} {t b : T3}, Way n t b → ∃ m c, m ≤ n + ps.length ∧ Way m (walk t ps) c
  | [], n, _, b, w => ⟨n, b, Nat.le_refl _, w⟩
  | p :: ps, n, t, b, w => by
    obtain ⟨m, c, h1, w1⟩ := way_turn p w
    obtain ⟨k, d, h2, w2⟩ := way_walk ps w1
    exact ⟨k, d, by rw [List.length_cons]; omega, w2⟩
def szsum (t : T3) : Int := nat t.1 + nat t.2.1 + nat t.2.2
theorem szsum_tri (p : P3) (u v w : Int) : szsum (tri p u v w) = nat u + nat v + nat w := by
  cases p
  · show nat v + nat w + nat u = _; omega
  · rfl
  · show nat w + nat u + nat v = _; omega
theorem down_less {p : P3} {t : T3} (d : Down p t) : szsum (turn p t) < szsum t := by
  have e := tri_of p t
  generalize hu : co p t = u at *
  generalize hv : go p t = v at *
  generalize hw : opp p t = w at *
  obtain ⟨r, h1, h2, h3⟩ := d
  rw [hu] at h1 h3
  rw [hv] at h2 h3
  rw [hw] at h3
  rw [e] at r ⊢
  rw [turn_tri, szsum_tri, szsum_tri, nat_neg, nat_neg]
  have mn : 2 * 2 ≤ nat u * nat v := Int.mul_le_mul h1 h2 (by decide) (by omega)
  rcases (ring_tri p u v w).mp r with ⟨a1, a2, a3⟩ | ⟨a1, a2, a3⟩
  · rw [push_pos a1 a2]
    rw [nat_pos a1, nat_pos a2] at mn h3
    rw [nat_pos a3] at h3 ⊢
    have : nat (w - u * v) < w := by unfold nat; split <;> omega
    omega
  · rw [push_neg a1 a2]
    rw [nat_neg' a1, nat_neg' a2, Int.neg_mul_neg] at mn h3
    rw [nat_neg' a3] at h3 ⊢
    have : nat (w + u * v) < -w := by unfold nat; split <;> omega
    omega
theorem way_sum : ∀ (k : Nat) (t : T3), szsum t ≤ k → ∃ m b, m ≤ k ∧ Way m t b
  | 0, t, h => by
    refine ⟨0, t, Nat.le_refl _, .here fun p d => ?_⟩
    have := d.pos
    obtain ⟨x, y, z⟩ := t
    have a := nat_nonneg x
    have b := nat_nonneg y
    have c := nat_nonneg z
    have h : nat x + nat y + nat z ≤ ((0 : Nat) : Int) := h
    cases p <;> simp only [opp] at this <;> omega
  | k + 1, t, h => by
    by_cases e : ∃ p, Down p t
    · obtain ⟨p, d⟩ := e
      have := down_less d
      obtain ⟨m, b, h1, w⟩ := way_sum k (turn p t) (by omega)
      exact ⟨m + 1, b, by omega, .down d w⟩
    · exact ⟨0, t, by omega, .here fun p d => e ⟨p, d⟩⟩
/-- down by few turns: small, or at the bottom, or so behind one turn -/
def Low (t : T3) : Prop := szsum t ≤ 130 ∨ (∀ p, ¬ Down p t) ∨ ∃ p, Down p t ∧ (szsum (turn p t) ≤ 130 ∨ ∀ q, ¬ Down q (turn p t))
theorem Low.way {t : T3} (h : Low t) : ∃ m b, m ≤ 131 ∧ Way m t b := by
  rcases h with h | h | ⟨p, d, h | h⟩
  · obtain ⟨m, b, h1, w⟩ := way_sum 130 t h
    exact ⟨m, b, by omega, w⟩
  · exact ⟨0, t, by omega, .here h⟩
  · obtain ⟨m, b, h1, w⟩ := way_sum 130 _ h
    exact ⟨m + 1, b, by omega, .down d w⟩
  · exact ⟨1, _, by omega, .down d (.here h)⟩
/-- what the document says of ringed kinds: a ring with sizes of 2 and more and a mark of at most 4 -/
def Rg (t : T3) : Prop := ring t ∧ (∀ s, 2 ≤ nat (opp s t)) ∧ mk t ≤ 4
theorem rg_step {u v w : Int} (hu : 2 ≤ u) (hv : 2 ≤ v) (hw : 2 ≤ w) (h : u * u + v * v + w * w - u * v * w ≤ 4) : w ≤ u * v - 2 := by
  have uu : 2 * 2 ≤ u * u := Int.mul_le_mul hu hu (by decide) (by omega)
  have vv : 2 * 2 ≤ v * v := Int.mul_le_mul hv hv (by decide) (by omega)
  have uv : 2 * 2 ≤ u * v := Int.mul_le_mul hu hv (by decide) (by omega)
  have e : w * w - u * v * w = w * (w - u * v) := by rw [Int.mul_sub, Int.mul_comm w (u * v)]
  rcases Int.lt_or_le (u * v - 2) w with c | c
  · exfalso
    rcases Int.lt_or_le (u * v - 1) w with c1 | c1
    · have := Int.mul_nonneg (show 0 ≤ w by omega) (show 0 ≤ w - u * v by omega)
      omega
    · have e1 : w - u * v = -1 := by omega
      rw [e1] at e
      have sq := sq_nonneg (u - v)
      have e2 : (u - v) * (u - v) = u * u + v * v - 2 * (u * v) := by
        rw [Int.sub_mul, Int.mul_sub, Int.mul_sub, Int.mul_comm v u]
        omega
      omega
  · exact c
theorem Rg.tri {p : P3} {u v w : Int} : Rg (tri p u v w) ↔ ((0 < u ∧ 0 < v ∧ 0 < w) ∨ (u < 0 ∧ v < 0 ∧ w < 0)) ∧ 2 ≤ nat u ∧ 2 ≤ nat v ∧ 2 ≤ nat w ∧ mk (tri p u v w) ≤ 4 := by
  unfold Rg
  rw [ring_tri]
  constructor
  · rintro ⟨h1, h2, h3⟩
    cases p
    · exact ⟨h1, h2 .b, h2 .c, h2 .a, h3⟩
    · exact ⟨h1, h2 .c, h2 .a, h2 .b, h3⟩
    · exact ⟨h1, h2 .a, h2 .b, h2 .c, h3⟩
  · rintro ⟨h1, h2, h3, h4, h5⟩
    refine ⟨h1, fun s => ?_, h5⟩
    cases p <;> cases s <;> assumption
theorem Rg.turn {t : T3} (p : P3) (h : Rg t) : Rg (turn p t) := by
  have hm := mk_turn p t
  rw [tri_of p t] at h hm ⊢
  generalize co p t = u at *
  generalize go p t = v at *
  generalize opp p t = w at *
  obtain ⟨r, a, b, c, m⟩ := Rg.tri.mp h
  rw [turn_tri] at hm ⊢
  refine Rg.tri.mpr ⟨?_, by rw [nat_neg]; exact a, by rw [nat_neg]; exact b, ?_, by rw [hm]; exact m⟩
  all_goals
    rw [mk_tri, if_pos r] at m
    rcases r with ⟨r1, r2, r3⟩ | ⟨r1, r2, r3⟩
    · rw [nat_pos r1] at a m
      rw [nat_pos r2] at b m
      rw [nat_pos r3] at c m
      have st := rg_step a b c m
      rw [push_pos r1 r2]
      first | exact .inr ⟨by omega, by omega, by omega⟩ | (rw [nat_neg' (by omega)]; omega)
    · rw [nat_neg' r1] at a m
      rw [nat_neg' r2] at b m
      rw [nat_neg' r3] at c m
      have st := rg_step a b c (by simpa only [Int.neg_mul_neg] using m)
      rw [Int.neg_mul_neg] at st
      rw [push_neg r1 r2]
      first | exact .inl ⟨by omega, by omega, by omega⟩ | (rw [nat_pos (by omega)]; omega)
theorem Rg.iff (p : P3) (t : T3) : Rg (At.turn p t) ↔ Rg t := ⟨fun h => by have := h.turn p; rwa [turn_twice] at this, fun h => h.turn p⟩
theorem Rg.walk : ∀ (ps : List P3) (t : T3), Rg (At.walk t ps) ↔ Rg t
  | [], _ => Iff.rfl
  | p :: ps, t => by rw [walk_cons, Rg.walk ps, Rg.iff]
theorem Way.rg {n : Nat} {t b : T3} (w : Way n t b) : Rg b ↔ Rg t := by
  induction w with
  | here => exact Iff.rfl
  | down d _ ih => rw [ih, Rg.iff]
theorem Way.flat {n : Nat} {t b : T3} (w : Way n t b) : ∀ p, ¬ Down p b := by
  induction w with
  | here h => exact h
  | down _ _ ih => exact ih
/-! the sizes in order -/
theorem perm2 {α : Type} {a b x y : α} (h : [a, b].Perm [x, y]) : (a = x ∧ b = y) ∨ (a = y ∧ b = x) := by
  have m : a ∈ [x, y] := h.mem_iff.mp List.mem_cons_self
  simp only [List.mem_cons, List.not_mem_nil, or_false] at m
  rcases m with rfl | rfl
  · have := List.perm_cons _ |>.mp h
    exact .inl ⟨rfl, by simpa using this⟩
  · have h2 : [a, b].Perm [a, x] := h.trans (List.Perm.swap _ _ _)
    have := List.perm_cons _ |>.mp h2
    exact .inr ⟨rfl, by simpa using this⟩
theorem perm3 {α : Type} {a b c x y z : α} (h : [a, b, c].Perm [x, y, z]) : (a = x ∧ b = y ∧ c = z) ∨ (a = x ∧ b = z ∧ c = y) ∨ (a = y ∧ b = x ∧ c = z) ∨ (a = y ∧ b = z ∧ c = x) ∨ (a = z ∧ b = x ∧ c = y) ∨ (a = z ∧ b = y ∧ c = x) := by
  have m : a ∈ [x, y, z] := h.mem_iff.mp List.mem_cons_self
  simp only [List.mem_cons, List.not_mem_nil, or_false] at m
  rcases m with rfl | rfl | rfl
  · rcases perm2 (List.perm_cons _ |>.mp h) with ⟨rfl, rfl⟩ | ⟨rfl, rfl⟩
    · exact .inl ⟨rfl, rfl, rfl⟩
    · exact .inr (.inl ⟨rfl, rfl, rfl⟩)
  · have h2 : [a, b, c].Perm [a, x, z] := h.trans (List.Perm.swap _ _ _)
    rcases perm2 (List.perm_cons _ |>.mp h2) with ⟨rfl, rfl⟩ | ⟨rfl, rfl⟩
    · exact .inr (.inr (.inl ⟨rfl, rfl, rfl⟩))
    · exact .inr (.inr (.inr (.inl ⟨rfl, rfl, rfl⟩)))
  · have h2 : [a, b, c].Perm [a, x, y] := h.trans ((List.Perm.cons x (List.Perm.swap _ _ _)).trans (List.Perm.swap _ _ _))
    rcases perm2 (List.perm_cons _ |>.mp h2) with ⟨rfl, rfl⟩ | ⟨rfl, rfl⟩
    · exact .inr (.inr (.inr (.inr (.inl ⟨rfl, rfl, rfl⟩))))
    · exact .inr (.inr (.inr (.inr (.inr ⟨rfl, rfl, rfl⟩))))
/-- p <= q <= r, 2 r <= p q: no size is more than half the product of the others -/
theorem half_all {p q r : Int} (h0 : 0 ≤ p) (h1 : p ≤ q) (h2 : q ≤ r) (h : 2 * r ≤ p * q) : 2 * q ≤ p * r ∧ 2 * p ≤ q * r := by
  have a : p * q ≤ p * r := Int.mul_le_mul_of_nonneg_left h2 h0
  have b : p * r ≤ q * r := Int.mul_le_mul_of_nonneg_right h1 (by omega)
  omega
/-- such a ring has a mark of at most 4 -/
theorem half_mark {p q r : Int} (h0 : 2 ≤ p) (h1 : p ≤ q) (h2 : q ≤ r) (h : 2 * r ≤ p * q) : p * p + q * q + r * r - p * q * r ≤ 4 := by
  have e1 : (r - q) * (r + q - p * q) ≤ 0 := by
    have := Int.mul_nonneg (show 0 ≤ r - q by omega) (show 0 ≤ p * q - r - q by omega)
    have e : (r - q) * (r + q - p * q) = -((r - q) * (p * q - r - q)) := by rw [← Int.mul_neg]; congr 1; omega
    omega
  have e2 : (r - q) * (r + q - p * q) = r * r - q * q - (r * (p * q) - q * (p * q)) := by
    rw [Int.mul_sub, Int.sub_mul r q (r + q), Int.mul_add, Int.mul_add, Int.sub_mul r q (p * q), Int.mul_comm q r]
    omega
  have e3 : p * q * r = r * (p * q) := Int.mul_comm _ _
  have e4 : q * (p * q) = p * (q * q) := by rw [← Int.mul_assoc, Int.mul_comm q p, Int.mul_assoc]
  have pq : p * p ≤ q * q := Int.mul_le_mul h1 h1 (by omega) (by omega)
  -- p * p + 2 q * q - p * (q * q)
  have e5 : (p - 2) * (p * p) ≤ (p - 2) * (q * q) := Int.mul_le_mul_of_nonneg_left pq (by omega)
  have e6 : (p - 2) * (q * q) = p * (q * q) - 2 * (q * q) := Int.sub_mul ..
  rcases Int.lt_or_le 2 p with c | c
  · have : 1 * (p * p) ≤ (p - 2) * (p * p) := Int.mul_le_mul_of_nonneg_right (by omega) (Int.mul_nonneg (by omega) (by omega))
    omega
  · have : p = 2 := by omega
    subst this
    omega
theorem nat_ge1 {x : Int} (h : 0 < x ∨ x < 0) : 1 ≤ nat x := by unfold nat; split <;> omega
theorem ring_ge1 {x y z : Int} (r : ring (x, y, z)) : 1 ≤ nat x ∧ 1 ≤ nat y ∧ 1 ≤ nat z := by
  rcases r with ⟨a, b, c⟩ | ⟨a, b, c⟩
  · exact ⟨nat_ge1 (.inl a), nat_ge1 (.inl b), nat_ge1 (.inl c)⟩
  · exact ⟨nat_ge1 (.inr a), nat_ge1 (.inr b), nat_ge1 (.inr c)⟩
def Srt (p q r : Int) (t : T3) : Prop := [p, q, r].Perm [nat t.1, nat t.2.1, nat t.2.2] ∧ p ≤ q ∧ q ≤ r
theorem Srt.of {ms : List Int} {t : T3} (h : ms.Perm [nat t.1, nat t.2.1, nat t.2.2]) (o : ms.Pairwise (· ≤ ·)) : ∃ p q r, ms = [p, q, r] ∧ Srt p q r t := by
  have l := h.length_eq
  match ms, l, h, o with
  | [p, q, r], _, h, o =>
    simp only [List.pairwise_cons, List.mem_cons, List.not_mem_nil, or_false, forall_eq_or_imp, forall_eq] at o
    exact ⟨p, q, r, rfl, h, o.1.1, o.2.1⟩
theorem Srt.flat {p q r : Int} {t : T3} (s : Srt p q r t) (hr : ring t) : (p = 1 ∨ 2 * r ≤ p * q) ↔ ∀ s, ¬ Down s t := by
  obtain ⟨x, y, z⟩ := t
  obtain ⟨x1, y1, z1⟩ := ring_ge1 hr
  obtain ⟨pm, o1, o2⟩ := s
  have pm : [p, q, r].Perm [nat x, nat y, nat z] := pm
  have cases3 := perm3 pm
  have c1 := Int.mul_comm p q
  have c2 := Int.mul_comm p r
  have c3 := Int.mul_comm q r
  constructor
  · intro h s d
    have ls : 2 ≤ nat x ∧ 2 ≤ nat y ∧ 2 ≤ nat z := by
      have := d.least
      omega
    have p2 : 2 ≤ p := by rcases cases3 with ⟨rfl, rfl, rfl⟩ | ⟨rfl, rfl, rfl⟩ | ⟨rfl, rfl, rfl⟩ | ⟨rfl, rfl, rfl⟩ | ⟨rfl, rfl, rfl⟩ | ⟨rfl, rfl, rfl⟩ <;> omega
    have h2 : 2 * r ≤ p * q := by
      rcases h with h | h
      · omega
      · exact h
    obtain ⟨g1, g2⟩ := half_all (by omega) o1 o2 h2
    have d4 := d.2.2.2
    cases s <;> simp only [co, go, opp] at d4 <;> rcases cases3 with ⟨rfl, rfl, rfl⟩ | ⟨rfl, rfl, rfl⟩ | ⟨rfl, rfl, rfl⟩ | ⟨rfl, rfl, rfl⟩ | ⟨rfl, rfl, rfl⟩ | ⟨rfl, rfl, rfl⟩ <;> omega
  · intro no
    rcases Int.lt_or_le (p * q) (2 * r) with c | c
    · left
      rcases Int.lt_or_le 1 p with c' | c'
      · exfalso
        rcases cases3 with ⟨rfl, rfl, rfl⟩ | ⟨rfl, rfl, rfl⟩ | ⟨rfl, rfl, rfl⟩ | ⟨rfl, rfl, rfl⟩ | ⟨rfl, rfl, rfl⟩ | ⟨rfl, rfl, rfl⟩
        · exact no .b ⟨hr, by show 2 ≤ nat x; omega, by show 2 ≤ nat y; omega, by show nat x * nat y < 2 * nat z; omega⟩
        · exact no .a ⟨hr, by show 2 ≤ nat z; omega, by show 2 ≤ nat x; omega, by show nat z * nat x < 2 * nat y; omega⟩
        · exact no .b ⟨hr, by show 2 ≤ nat x; omega, by show 2 ≤ nat y; omega, by show nat x * nat y < 2 * nat z; omega⟩
        · exact no .c ⟨hr, by show 2 ≤ nat y; omega, by show 2 ≤ nat z; omega, by show nat y * nat z < 2 * nat x; omega⟩
        · exact no .a ⟨hr, by show 2 ≤ nat z; omega, by show 2 ≤ nat x; omega, by show nat z * nat x < 2 * nat y; omega⟩
        · exact no .c ⟨hr, by show 2 ≤ nat y; omega, by show 2 ≤ nat z; omega, by show nat y * nat z < 2 * nat x; omega⟩
      · rcases cases3 with ⟨rfl, rfl, rfl⟩ | ⟨rfl, rfl, rfl⟩ | ⟨rfl, rfl, rfl⟩ | ⟨rfl, rfl, rfl⟩ | ⟨rfl, rfl, rfl⟩ | ⟨rfl, rfl, rfl⟩ <;> omega
    · exact .inr c
theorem Srt.due {p q r : Int} {t : T3} (s : Srt p q r t) (no : ∀ s, ¬ Down s t) : (ring t ∧ 2 * r ≤ p * q) ↔ Rg t := by
  have s' := s
  obtain ⟨x, y, z⟩ := t
  obtain ⟨pm, o1, o2⟩ := s
  have pm : [p, q, r].Perm [nat x, nat y, nat z] := pm
  have cases3 := perm3 pm
  constructor
  · rintro ⟨hr, h⟩
    obtain ⟨x1, y1, z1⟩ := ring_ge1 hr
    have p1 : 1 ≤ p := by rcases cases3 with ⟨rfl, rfl, rfl⟩ | ⟨rfl, rfl, rfl⟩ | ⟨rfl, rfl, rfl⟩ | ⟨rfl, rfl, rfl⟩ | ⟨rfl, rfl, rfl⟩ | ⟨rfl, rfl, rfl⟩ <;> omega
    have p2 : 2 ≤ p := by
      rcases Int.lt_or_le 1 p with c | c
      · omega
      · have : p = 1 := by omega
        subst this
        omega
    have m := half_mark p2 o1 o2 h
    have ge : 2 ≤ nat x ∧ 2 ≤ nat y ∧ 2 ≤ nat z := by rcases cases3 with ⟨rfl, rfl, rfl⟩ | ⟨rfl, rfl, rfl⟩ | ⟨rfl, rfl, rfl⟩ | ⟨rfl, rfl, rfl⟩ | ⟨rfl, rfl, rfl⟩ | ⟨rfl, rfl, rfl⟩ <;> omega
    refine ⟨hr, fun s => by cases s; exact ge.2.1; exact ge.2.2; exact ge.1, ?_⟩
    have e : p * q * r = nat x * nat y * nat z := by
      clear m h
      rcases cases3 with ⟨rfl, rfl, rfl⟩ | ⟨rfl, rfl, rfl⟩ | ⟨rfl, rfl, rfl⟩ | ⟨rfl, rfl, rfl⟩ | ⟨rfl, rfl, rfl⟩ | ⟨rfl, rfl, rfl⟩ <;> ac_rfl
    have e2 : p * p + q * q + r * r = nat x * nat x + nat y * nat y + nat z * nat z := by
      clear m h e
      rcases cases3 with ⟨rfl, rfl, rfl⟩ | ⟨rfl, rfl, rfl⟩ | ⟨rfl, rfl, rfl⟩ | ⟨rfl, rfl, rfl⟩ | ⟨rfl, rfl, rfl⟩ | ⟨rfl, rfl, rfl⟩ <;> omega
    unfold mk
    rw [if_pos hr, ← nat_sq x, ← nat_sq y, ← nat_sq z]
    show nat x * nat x + nat y * nat y + nat z * nat z - nat x * nat y * nat z ≤ 4
    omega
  · rintro ⟨hr, ge, _⟩
    refine ⟨hr, ?_⟩
    have gx : 2 ≤ nat x := ge .c
    have gy : 2 ≤ nat y := ge .a
    have gz : 2 ≤ nat z := ge .b
    rcases (s'.flat hr).mpr no with h | h
    · exfalso
      rcases cases3 with ⟨rfl, rfl, rfl⟩ | ⟨rfl, rfl, rfl⟩ | ⟨rfl, rfl, rfl⟩ | ⟨rfl, rfl, rfl⟩ | ⟨rfl, rfl, rfl⟩ | ⟨rfl, rfl, rfl⟩ <;> omega
    · exact h
/-- the place opposite a tie -/
def plOf : Nat → P3
  | 0 => .c
  | 1 => .a
  | _ => .b
theorem plOf_opp (j : Nat) (hj : j < 3) (t : T3) (m : Int) (h : [nat t.1, nat t.2.1, nat t.2.2][j]? = some m) : nat (opp (plOf j) t) = m := by
  obtain ⟨x, y, z⟩ := t
  match j, hj with
  | 0, _ => exact Option.some.inj h
  | 1, _ => exact Option.some.inj h
  | 2, _ => exact Option.some.inj h
theorem plOf_down {j : Nat} (hj : j < 3) {t : T3} {m : Int} (h : [nat t.1, nat t.2.1, nat t.2.2][j]? = some m) (hm : ∀ y ∈ [nat t.1, nat t.2.1, nat t.2.2], y ≤ m) (n : ¬ ∀ s, ¬ Down s t) : Down (plOf j) t := by
  have e := plOf_opp j hj t m h
  have all : ∀ s, nat (opp s t) ≤ nat (opp (plOf j) t) := fun s => by
    rw [e]
    obtain ⟨x, y, z⟩ := t
    cases s
    · exact hm _ (by simp [opp])
    · exact hm _ (by simp [opp])
    · exact hm _ (by simp [opp])
  rcases Classical.not_forall.mp n with ⟨s, d⟩
  have d := Classical.not_not.mp d
  have := top_only all d
  rw [← this]
  exact d
/-- round the ring -/
def rot (t : T3) : T3 := (t.2.1, t.2.2, t.1)
theorem rot_down (p : P3) (t : T3) : Down p (rot t) ↔ Down (nxt p) t := by
  obtain ⟨x, y, z⟩ := t
  have r : ring (y, z, x) ↔ ring (x, y, z) := by simp only [ring]; omega
  cases p <;> simp only [Down, rot, nxt, co, go, opp, r]
theorem rot_turn (p : P3) (t : T3) : turn p (rot t) = rot (turn (nxt p) t) := by
  obtain ⟨x, y, z⟩ := t
  cases p <;> rfl
theorem rot_sum (t : T3) : szsum (rot t) = szsum t := by
  unfold szsum rot
  show nat t.2.1 + nat t.2.2 + nat t.1 = _
  omega
theorem nxt_all {P : P3 → Prop} : (∀ p, P (nxt p)) ↔ ∀ p, P p := ⟨fun h p => by cases p; exact h .c; exact h .a; exact h .b, fun h p => h _⟩
theorem rot_flat (t : T3) : (∀ p, ¬ Down p (rot t)) ↔ ∀ p, ¬ Down p t := by
  rw [← nxt_all (P := fun p => ¬ Down p t)]
  exact forall_congr' fun p => not_congr (rot_down p t)
theorem Low.rot {t : T3} (h : Low t) : Low (rot t) := by
  rcases h with h | h | ⟨p, d, h⟩
  · exact .inl (by rw [rot_sum]; exact h)
  · exact .inr (.inl ((rot_flat t).mpr h))
  · obtain ⟨q, e⟩ : ∃ q, nxt q = p := by cases p; exact ⟨.c, rfl⟩; exact ⟨.a, rfl⟩; exact ⟨.b, rfl⟩
    subst e
    refine .inr (.inr ⟨q, (rot_down q t).mpr d, ?_⟩)
    rw [rot_turn, rot_sum, rot_flat]
    exact h
theorem flat3 {x y z p q r : Int} (hx : nat x = p) (hy : nat y = q) (hz : nat z = r) (h1 : 2 ≤ p) (h2 : 2 ≤ q) (h3 : p ≤ r) (h4 : q ≤ r) (h : 2 * r ≤ p * q) : ∀ s, ¬ Down s (x, y, z) := by
  intro s d
  have a : 2 * r ≤ p * r := Int.mul_le_mul_of_nonneg_right h1 (by omega)
  have b : 2 * r ≤ q * r := Int.mul_le_mul_of_nonneg_right h2 (by omega)
  have c := Int.mul_comm r p
  have d4 := d.2.2.2
  cases s <;> simp only [co, go, opp, hx, hy, hz] at d4 <;> omega
theorem nat_of {x : Int} (h : 0 ≤ x) : nat x = x := by unfold nat; rw [if_neg (by omega)]
theorem nat_of' {x : Int} (h : 0 ≤ x) : nat (0 - x) = x := by unfold nat; split <;> omega
theorem low_pos {p q r : Int} (h1 : 2 ≤ p) (h2 : 2 ≤ q) (h3 : p ≤ r) (h4 : q ≤ r) (h : 2 * r ≤ p * q) : Low (p, q, r) :=
  .inr (.inl (flat3 (nat_of (by omega)) (nat_of (by omega)) (nat_of (by omega)) h1 h2 h3 h4 h))
theorem low_neg {p q r : Int} (h1 : 2 ≤ p) (h2 : 2 ≤ q) (h3 : p ≤ r) (h4 : q ≤ r) (h : 2 * r ≤ p * q) : Low (0 - p, 0 - q, 0 - r) :=
  .inr (.inl (flat3 (nat_of' (by omega)) (nat_of' (by omega)) (nat_of' (by omega)) h1 h2 h3 h4 h))
theorem low_one {p q z : Int} (h1 : 2 ≤ p) (h2 : 2 ≤ q) (h3 : p ≤ 41) (h4 : q ≤ 41) (hz : z = p * q / 2 ∨ z = p * q - q ∨ z = p * q + 1 ∨ z = p * q) : Low (p, q, z) := by
  have a : 2 * q ≤ p * q := Int.mul_le_mul_of_nonneg_right h1 (by omega)
  have b : p * 2 ≤ p * q := Int.mul_le_mul_of_nonneg_left h2 (by omega)
  have e : 2 * (q - 1) ≤ p * (q - 1) := Int.mul_le_mul_of_nonneg_right h1 (by omega)
  have e2 : p * (q - 1) = p * q - p := by rw [Int.mul_sub, Int.mul_one]
  have f : (p - 1) * 2 ≤ (p - 1) * q := Int.mul_le_mul_of_nonneg_left h2 (by omega)
  have f2 : (p - 1) * q = p * q - q := by rw [Int.sub_mul, Int.one_mul]
  rcases Int.lt_or_le (p * q) (2 * z) with c | c
  · have hz0 : 0 < z := by omega
    have dn : Down .b (p, q, z) := ⟨.inl ⟨by omega, by omega, hz0⟩, by show 2 ≤ nat p; rw [nat_of (by omega)]; exact h1, by show 2 ≤ nat q; rw [nat_of (by omega)]; exact h2, by show nat p * nat q < 2 * nat z; rw [nat_of (by omega), nat_of (by omega), nat_of (by omega)]; exact c⟩
    refine .inr (.inr ⟨.b, dn, .inl ?_⟩)
    have tb : turn .b (p, q, z) = (-p, -q, z - p * q) := by
      show (-p, -q, push p q z) = _
      rw [push_pos (by omega) (by omega)]
    rw [tb]
    show nat (-p) + nat (-q) + nat (z - p * q) ≤ 130
    rw [nat_neg, nat_neg, nat_of (show 0 ≤ p by omega), nat_of (show 0 ≤ q by omega)]
    have : nat (z - p * q) ≤ 41 := by
      unfold nat
      split <;> omega
    omega
  · refine low_pos h1 h2 ?_ ?_ c <;> omega
theorem low_sum {x y z : Int} (hx : nat x ≤ 43) (hy : nat y ≤ 43) (hz : nat z ≤ 43) : Low (x, y, z) := .inl (by show nat x + nat y + nat z ≤ 130; omega)
end At

namespace At
open L2 PyProof.Rows PySem.Spec PySem
/-! ### a drawn purse: a list of three ints that changes (stages 3 and 4) -/
def Purse (H : Hp) (c : Addr) : Prop := ∃ d x n : Int, H c = some (.lst [.int d, .int x, .int n]) ∧ 0 ≤ d ∧ 0 ≤ x ∧ x < 2147483543
theorem Purse.ext {c : Addr} {H H' : Hp} (h : Purse H c) (e : Ext H H') : Purse H' c := by
  obtain ⟨d, x, n, h1, h2⟩ := h
  exact ⟨d, x, n, e _ _ h1, h2⟩
theorem Purse.new {c p : Addr} {H : Hp} {o : HO} (h : Purse H c) (np : H p = none) : Purse (upd H p o) c := h.ext (Evl.Ex.new np)
theorem Purse.past {c p : Addr} {H : Hp} {o : HO} (h : Purse H c) (ne : p ≠ c) : Purse (upd H p o) c := by
  obtain ⟨d, x, n, h1, h2⟩ := h
  exact ⟨d, x, n, by rw [upd_ne (Ne.symm ne)]; exact h1, h2⟩
theorem ne_purse {c l : Addr} {H : Hp} (h : Purse H c) (n : H l = none) : l ≠ c := fun z => by
  obtain ⟨d, x, k, h1, _⟩ := h
  rw [z, h1] at n
  cases n
theorem ExtC.tupP {c a : Addr} {H H' : Hp} {xs : List V} (e : ExtC c H H') (hc : Purse H c) (h : H a = some (.tup xs)) : H' a = some (.tup xs) := e a _ (fun z => by
  obtain ⟨d, x, n, h1, _⟩ := hc
  rw [z, h1] at h
  cases h) h
theorem mixedP (x : Int) : 0 ≤ x.fmod 2147483543 ∧ x.fmod 2147483543 < 2147483543 := by
  (rw [Int.fmod_eq_emod_of_nonneg _ (by decide)])
  (exact ⟨Int.emod_nonneg _ (by decide), Int.emod_lt_of_pos _ (by decide)⟩)
end At

namespace At
open L2 PyProof.Rows PySem.Spec PySem
/-! ### webs: a square table of ints, told by a function -/
def gcdL (xs : List Int) : Int := xs.foldl (fun g x => ((Nat.gcd g.natAbs x.natAbs : Nat) : Int)) 0
theorem gcdL_take {xs : List Int} {i : Nat} {x : Int} (h : xs[i]? = some x) : gcdL (xs.take (i + 1)) = ((Nat.gcd (gcdL (xs.take i)).natAbs x.natAbs : Nat) : Int) := by
  unfold gcdL
  (rw [List.take_add_one, h, List.foldl_append])
  rfl
def rowOf (n : Nat) (f : Nat → Nat → Int) (i : Nat) : List Int := (List.range n).map (f i)
def MatAt (H : Hp) (a : Addr) (n : Nat) (f : Nat → Nat → Int) : Prop := ∃ rs : List Addr, rs.length = n ∧ H a = some (.tup (rs.map .ref)) ∧ ∀ i r, rs[i]? = some r → H r = some (.tup ((rowOf n f i).map .int))
theorem MatAt.ext {H H' : Hp} {a : Addr} {n : Nat} {f : Nat → Nat → Int} (h : MatAt H a n f) (e : Ext H H') : MatAt H' a n f := by
  obtain ⟨rs, h1, h2, h3⟩ := h
  exact ⟨rs, h1, e _ _ h2, fun i r z => e _ _ (h3 i r z)⟩
/-- the table behind a turn at p -/
def mutW (f : Nat → Nat → Int) (p i j : Nat) : Int :=
  if p = i ∨ p = j then -f i j else if 0 < f i p ∧ 0 < f p j then f i j + f i p * f p j else if f i p < 0 ∧ f p j < 0 then f i j - f i p * f p j else f i j
def WEB : Int := 10 ^ 30
theorem MatAt.row {H : Hp} {a : Addr} {n : Nat} {f : Nat → Nat → Int} (h : MatAt H a n f) {i : Nat} (hi : i < n) : ∃ (xs : List V) (r : Addr), H a = some (.tup xs) ∧ xs[i]? = some (.ref r) ∧ H r = some (.tup ((rowOf n f i).map .int)) := by
  obtain ⟨rs, h1, h2, h3⟩ := h
  have hz : i < rs.length := by omega
  exact ⟨_, rs[i], h2, by rw [List.getElem?_map, List.getElem?_eq_getElem hz]; rfl, h3 i _ (List.getElem?_eq_getElem hz)⟩
theorem rowOf_at {n : Nat} {f : Nat → Nat → Int} {i j : Nat} (hj : j < n) : ((rowOf n f i).map V.int)[j]? = some (.int (f i j)) := by
  rw [List.getElem?_map, rowOf, List.getElem?_map, List.getElem?_range hj]
  rfl

theorem eqvI {a b : Int} : eqV (V.int a) (V.int b) = decide (a = b) := by
  by_cases h : a = b
  · subst h
    rw [decide_eq_true rfl]
    exact (by simp [eqV] : eqV (V.int a) (V.int a) = true)
  · rw [decide_eq_false h]
    simp [eqV, h]
theorem inV_two {a b c : Int} : inV (.int a) [.int b, .int c] = decide (a = b ∨ a = c) := by
  have e : inV (.int a) [.int b, .int c] = (eqV (.int b) (.int a) || (eqV (.int c) (.int a) || false)) := rfl
  rw [e, eqvI, eqvI]
  by_cases h1 : b = a
  · rw [decide_eq_true h1, decide_eq_true (show a = b ∨ a = c from .inl h1.symm)]
    rfl
  · by_cases h2 : c = a
    · rw [decide_eq_false h1, decide_eq_true h2, decide_eq_true (show a = b ∨ a = c from .inr h2.symm)]
      rfl
    · rw [decide_eq_false h1, decide_eq_false h2, decide_eq_false (show ¬ (a = b ∨ a = c) by omega)]
      rfl
def flatW (n : Nat) (f : Nat → Nat → Int) (i : Nat) : List Int := (List.range i).flatMap fun k => (rowOf n f k).map nat
theorem flatW_succ {n : Nat} {f : Nat → Nat → Int} {i : Nat} : flatW n f (i + 1) = flatW n f i ++ (rowOf n f i).map nat := by
  unfold flatW
  rw [List.range_succ, List.flatMap_append]
  simp
theorem mem_flatW {n : Nat} {f : Nat → Nat → Int} {i : Nat} {m : Int} : m ∈ flatW n f i ↔ ∃ k j, k < i ∧ j < n ∧ m = nat (f k j) := by
  unfold flatW rowOf
  simp only [List.mem_flatMap, List.mem_range, List.mem_map]
  constructor
  · rintro ⟨k, hk, _, ⟨j, hj, rfl⟩, rfl⟩
    exact ⟨k, j, hk, hj, rfl⟩
  · rintro ⟨k, j, hk, hj, rfl⟩
    exact ⟨k, hk, _, ⟨j, hj, rfl⟩, rfl⟩
theorem flatW_len {n : Nat} {f : Nat → Nat → Int} : ∀ {i : Nat}, (flatW n f i).length = i * n
  | 0 => by simp [flatW]
  | i + 1 => by
    rw [flatW_succ, List.length_append, flatW_len, List.length_map, rowOf, List.length_map, List.length_range, Nat.succ_mul]
/-! a table of lists, made since H0 -/
def setW (g : Nat → Nat → Int) (k j : Nat) (v : Int) (i' j' : Nat) : Int := if i' = k ∧ j' = j then v else g i' j'
theorem rowOf_setW {n k j : Nat} {g : Nat → Nat → Int} {v : Int} : rowOf n (setW g k j v) k = (rowOf n g k).set j v := by
  unfold rowOf
  (refine List.ext_getElem (by simp) fun i h1 h2 => ?_)
  simp only [List.getElem_map, List.getElem_range, List.getElem_set, setW]
  by_cases e : j = i
  · rw [if_pos e, if_pos ⟨trivial, e.symm⟩]
  · rw [if_neg e, if_neg (fun z => e z.2.symm)]
theorem rowOf_other {n k j i : Nat} {g : Nat → Nat → Int} {v : Int} (h : i ≠ k) : rowOf n (setW g k j v) i = rowOf n g i := by
  unfold rowOf
  (refine List.map_congr_left fun x _ => ?_)
  exact if_neg fun z => h z.1
def TabAt (H0 H : Hp) (a : Addr) (n : Nat) (g : Nat → Nat → Int) : Prop := ∃ ls : List Addr, ls.length = n ∧ H0 a = none ∧ H a = some (.lst (ls.map .ref)) ∧ ls.Nodup ∧ ∀ i l, ls[i]? = some l → l ≠ a ∧ H0 l = none ∧ H l = some (.lst ((rowOf n g i).map .int))
theorem TabAt.set {H0 H : Hp} {a : Addr} {n k j : Nat} {g : Nat → Nat → Int} (h : TabAt H0 H a n g) (hk : k < n) (v : Int) : ∃ (xs : List V) (l : Addr), H a = some (.lst xs) ∧ xs[k]? = some (.ref l) ∧ H0 l = none ∧ H l = some (.lst ((rowOf n g k).map .int)) ∧ TabAt H0 (upd H l (.lst (((rowOf n g k).map V.int).set j (.int v)))) a n (setW g k j v) := by
  obtain ⟨ls, h1, h2, h3, h4, h5⟩ := h
  have hz : k < ls.length := by omega
  have hl := List.getElem?_eq_getElem hz
  obtain ⟨la, l0, lh⟩ := h5 k _ hl
  refine ⟨_, ls[k], h3, by rw [List.getElem?_map, hl]; rfl, l0, lh, ls, h1, h2, by rw [upd_ne (Ne.symm la)]; exact h3, h4, fun i l hi => ?_⟩
  obtain ⟨m1, m2, m3⟩ := h5 i l hi
  refine ⟨m1, m2, ?_⟩
  by_cases e : i = k
  · subst e
    rw [hl] at hi
    cases Option.some.inj hi
    rw [upd_same, rowOf_setW, List.map_set]
  · have ne : l ≠ ls[k] := fun z => by
      obtain ⟨hi', ei⟩ := List.getElem?_eq_some_iff.mp hi
      exact e ((List.getElem_inj h4).mp (ei.trans z))
    rw [upd_ne ne, rowOf_other e]
    exact m3
theorem ixN_nat {m j : Nat} (h : j < m) : ixN m (j : Int) = some j := by
  unfold ixN
  rw [if_pos (show (0 : Int) ≤ (j : Int) by omega), if_pos (show (j : Int) < (m : Int) by omega)]
  exact congrArg some (Int.toNat_natCast j)
theorem TabAt.congr {H0 H : Hp} {a : Addr} {n : Nat} {g g' : Nat → Nat → Int} (h : TabAt H0 H a n g) (e : ∀ i j, i < n → j < n → g i j = g' i j) : TabAt H0 H a n g' := by
  obtain ⟨ls, h1, h2, h3, h4, h5⟩ := h
  refine ⟨ls, h1, h2, h3, h4, fun i l hi => ?_⟩
  obtain ⟨m1, m2, m3⟩ := h5 i l hi
  have hn : i < n := by
    rw [← h1]
    exact (List.getElem?_eq_some_iff.mp hi).1
  have er : rowOf n g i = rowOf n g' i := List.map_congr_left fun j hj => e i j hn (List.mem_range.mp hj)
  exact ⟨m1, m2, er ▸ m3⟩
theorem gcd_fold (d : Nat) : ∀ (xs : List Int) (g : Int), ((d : Int) ∣ xs.foldl (fun g x => ((Nat.gcd g.natAbs x.natAbs : Nat) : Int)) g) ↔ ((d : Int) ∣ g ∧ ∀ x ∈ xs, (d : Int) ∣ x)
  | [], g => by simp
  | x :: xs, g => by
    have cd : ∀ y : Int, (d ∣ y.natAbs) ↔ (d : Int) ∣ y := fun y => by rw [← Int.natCast_dvd_natCast, Int.dvd_natAbs]
    rw [List.foldl_cons, gcd_fold d xs, Int.natCast_dvd_natCast, Nat.dvd_gcd_iff, cd, cd]
    simp only [List.mem_cons, forall_eq_or_imp, and_assoc]
theorem gcdL_dvd (d : Nat) (xs : List Int) : ((d : Int) ∣ gcdL xs) ↔ ∀ x ∈ xs, (d : Int) ∣ x := by
  unfold gcdL
  rw [gcd_fold]
  exact ⟨fun h => h.2, fun h => ⟨Int.dvd_zero _, h⟩⟩
theorem gcdL_nn (xs : List Int) : 0 ≤ gcdL xs := by
  have go : ∀ (xs : List Int) (g : Int), 0 ≤ g → 0 ≤ xs.foldl (fun g x => ((Nat.gcd g.natAbs x.natAbs : Nat) : Int)) g := by
    intro xs
    induction xs with
    | nil => intro g h; exact h
    | cons x xs ih => intro g _; exact ih _ (Int.natCast_nonneg _)
  exact go xs 0 (Int.le_refl _)
theorem gcdL_cast (xs : List Int) : gcdL xs = ((gcdL xs).natAbs : Int) := by
  have := gcdL_nn xs
  omega
theorem gcdL_same {xs ys : List Int} (h : ∀ d : Nat, (∀ x ∈ xs, (d : Int) ∣ x) ↔ ∀ y ∈ ys, (d : Int) ∣ y) : gcdL xs = gcdL ys := by
  have e : (gcdL xs).natAbs = (gcdL ys).natAbs := by
    refine Nat.dvd_antisymm ?_ ?_
    · have := (gcdL_dvd (gcdL xs).natAbs ys).mpr ((h _).mp ((gcdL_dvd _ xs).mp (by rw [← gcdL_cast]; exact Int.dvd_refl _)))
      rwa [gcdL_cast ys, Int.natCast_dvd_natCast] at this
    · have := (gcdL_dvd (gcdL ys).natAbs xs).mpr ((h _).mpr ((gcdL_dvd _ ys).mp (by rw [← gcdL_cast]; exact Int.dvd_refl _)))
      rwa [gcdL_cast xs, Int.natCast_dvd_natCast] at this
  rw [gcdL_cast xs, gcdL_cast ys, e]
theorem row_dvd {n : Nat} {f : Nat → Nat → Int} {i : Nat} {d : Int} : (∀ x ∈ rowOf n f i, d ∣ x) ↔ ∀ j, j < n → d ∣ f i j := by
  unfold rowOf
  (simp only [List.mem_map, List.mem_range])
  constructor
  · intro h j hj
    exact h _ ⟨j, hj, rfl⟩
  · rintro h x ⟨j, hj, rfl⟩
    exact h j hj
theorem gcdL_turn {n p i : Nat} {f : Nat → Nat → Int} (hp : p < n) : gcdL (rowOf n (mutW f p) i) = gcdL (rowOf n f i) := by
  refine gcdL_same fun d => ?_
  rw [row_dvd, row_dvd]
  by_cases hi : p = i
  · subst hi
    have e : ∀ j, mutW f p p j = -f p j := fun j => if_pos (.inl rfl)
    simp only [e, Int.dvd_neg]
  · have hpp : mutW f p i p = -f i p := if_pos (.inr rfl)
    have key : ∀ j, (d : Int) ∣ f i p → ((d : Int) ∣ mutW f p i j ↔ (d : Int) ∣ f i j) := fun j h => by
      have hm : (d : Int) ∣ f i p * f p j := Int.dvd_mul_of_dvd_left h
      unfold mutW
      split
      · exact Int.dvd_neg
      · split
        · exact ⟨fun z => by have := Int.dvd_sub z hm; rwa [Int.add_sub_cancel] at this, fun z => Int.dvd_add z hm⟩
        · split
          · exact ⟨fun z => by have := Int.dvd_add z hm; rwa [Int.sub_add_cancel] at this, fun z => Int.dvd_sub z hm⟩
          · exact Iff.rfl
    constructor
    · intro h j hj
      have h1 := h p hp
      rw [hpp, Int.dvd_neg] at h1
      exact (key j h1).mp (h j hj)
    · intro h j hj
      exact (key j (h p hp)).mpr (h j hj)
/-! what stays where only a purse changes -/
theorem TabAt.extC {H0 H H' : Hp} {c a : Addr} {n : Nat} {g : Nat → Nat → Int} (h : TabAt H0 H a n g) (hc : Purse H0 c) (e : ExtC c H H') : TabAt H0 H' a n g := by
  obtain ⟨ls, h1, h2, h3, h4, h5⟩ := h
  refine ⟨ls, h1, h2, e _ _ (ne_purse hc h2) h3, h4, fun i l hi => ?_⟩
  obtain ⟨m1, m2, m3⟩ := h5 i l hi
  exact ⟨m1, m2, e _ _ (ne_purse hc m2) m3⟩
theorem MatAt.extC {H H' : Hp} {c a : Addr} {n : Nat} {f : Nat → Nat → Int} (h : MatAt H a n f) (hc : Purse H c) (e : ExtC c H H') : MatAt H' a n f := by
  obtain ⟨rs, h1, h2, h3⟩ := h
  exact ⟨rs, h1, e.tupP hc h2, fun i r z => e.tupP hc (h3 i r z)⟩
theorem ExtC.mutP {c l : Addr} {H H' : Hp} {o : HO} (e : ExtC c H H') (n : H l = none) : ExtC c H (upd H' l o) := fun a u ne h => by
  rw [upd_ne (fun z => by rw [z, n] at h; cases h)]
  exact e a u ne h
theorem ExtC.nw {c l : Addr} {H H' : Hp} {o : HO} (e : ExtC c H H') (n : H' l = none) : ExtC c H (upd H' l o) := e.trans (ExtC.new n)
theorem rep_zeroW {n k : Nat} : (List.replicate (n : Int).toNat [V.int 0]).flatten = (rowOf n (fun _ _ => 0) k).map V.int := by
  rw [Int.toNat_natCast]
  unfold rowOf
  rw [List.map_map]
  induction n with
  | zero => rfl
  | succ n ih =>
    rw [List.replicate_succ', List.flatten_append, ih, List.range_succ, List.map_append]
    rfl
/-- both items of a pair at once -/
def symW (g : Nat → Nat → Int) (k j : Nat) (v : Int) : Nat → Nat → Int := setW (setW g k j v) j k (-v)
theorem symW_skew {g : Nat → Nat → Int} {k j : Nat} {v : Int} (ne : j ≠ k) (sk : ∀ i j, g i j = -g j i) (x y : Nat) : symW g k j v x y = -symW g k j v y x := by
  have h := sk x y
  unfold symW setW
  by_cases c1 : x = j ∧ y = k
  · rw [if_pos c1, if_neg (by omega), if_pos (by omega)]
  · rw [if_neg c1]
    by_cases c2 : x = k ∧ y = j
    · rw [if_pos c2, if_pos (by omega), Int.neg_neg]
    · rw [if_neg c2, if_neg (by omega), if_neg (by omega)]
      exact h
theorem symW_le {g : Nat → Nat → Int} {k j : Nat} {v B : Int} (hv : nat v ≤ B) (hg : ∀ i j, nat (g i j) ≤ B) (x y : Nat) : nat (symW g k j v x y) ≤ B := by
  unfold symW setW
  by_cases c1 : x = j ∧ y = k
  · rw [if_pos c1, nat_neg]
    exact hv
  · rw [if_neg c1]
    by_cases c2 : x = k ∧ y = j
    · rw [if_pos c2]
      exact hv
    · rw [if_neg c2]
      exact hg x y
theorem nat_lt {x B : Int} (h1 : -B ≤ x) (h2 : x ≤ B) : nat x ≤ B := by unfold nat; split <;> omega
theorem nat_bd {x B : Int} (h : nat x ≤ B) : -B ≤ x ∧ x ≤ B := by unfold nat at h; split at h <;> omega
theorem dvd_natI {d x : Int} : d ∣ nat x ↔ d ∣ x := by
  unfold nat
  split
  · exact Int.dvd_neg
  · exact Iff.rfl
/-- the sizes of a row, zeros left out -/
def sizesL (xs : List Int) : List Int := (xs.filter fun x => decide (x ≠ 0)).map nat
theorem mem_sizesL {xs : List Int} {s : Int} : s ∈ sizesL xs ↔ ∃ x ∈ xs, x ≠ 0 ∧ s = nat x := by
  unfold sizesL
  simp only [List.mem_map, List.mem_filter, decide_eq_true_eq]
  constructor
  · rintro ⟨x, ⟨h1, h2⟩, rfl⟩
    exact ⟨x, h1, h2, rfl⟩
  · rintro ⟨x, h1, h2, rfl⟩
    exact ⟨x, ⟨h1, h2⟩, rfl⟩
theorem sizesL_dvd {xs : List Int} {d : Int} : (∀ s ∈ sizesL xs, d ∣ s) ↔ ∀ x ∈ xs, d ∣ x := by
  constructor
  · intro h x hx
    by_cases z : x = 0
    · rw [z]
      exact Int.dvd_zero _
    · exact dvd_natI.mp (h _ (mem_sizesL.mpr ⟨x, hx, z, rfl⟩))
  · intro h s hs
    obtain ⟨x, hx, _, rfl⟩ := mem_sizesL.mp hs
    exact dvd_natI.mpr (h x hx)
theorem sizesL_pos {xs : List Int} {s : Int} (h : s ∈ sizesL xs) : 0 < s := by
  obtain ⟨x, _, z, rfl⟩ := mem_sizesL.mp h
  unfold nat
  split <;> omega
theorem gcdL_none {xs : List Int} (h : sizesL xs = []) : gcdL xs = 0 := by
  have e : (0 : Int) ∣ gcdL xs := (gcdL_dvd 0 xs).mpr (sizesL_dvd.mp (by rw [h]; intro s hs; cases hs))
  exact Int.zero_dvd.mp e
theorem gcdL_most {xs : List Int} {s m : Int} (hs : s ∈ sizesL xs) (hm : 1 ≤ m ∧ (∀ s ∈ sizesL xs, m ∣ s)) (hall : ∀ k, 1 ≤ k → k ≤ s → (∀ s ∈ sizesL xs, k ∣ s) → k ≤ m) : m = gcdL xs := by
  have hd : ∀ x ∈ xs, gcdL xs ∣ x := by
    have := (gcdL_dvd (gcdL xs).natAbs xs).mp (by rw [← gcdL_cast]; exact Int.dvd_refl _)
    rwa [← gcdL_cast] at this
  have hg := sizesL_dvd.mpr hd
  have sp := sizesL_pos hs
  have gs := hg s hs
  have g0 := gcdL_nn xs
  have g1 : gcdL xs ≠ 0 := fun z => by
    rw [z] at gs
    exact absurd (Int.zero_dvd.mp gs) (by omega)
  have gle := Int.le_of_dvd sp gs
  have h1 := hall (gcdL xs) (by omega) gle hg
  have h2 : m ∣ gcdL xs := by
    have := (gcdL_dvd m.natAbs xs).mpr (by rw [show (m.natAbs : Int) = m by omega]; exact sizesL_dvd.mp hm.2)
    rwa [show (m.natAbs : Int) = m by omega] at this
  have h3 := Int.le_of_dvd (by omega) h2
  omega
/-! what repr asks of data -/
structure Tx (k m : Nat) (d : PyData) : Prop where
  sh : d.showable = true
  nd : d.hasDict = false
  dp : d.depth ≤ k
  lv : d.leavesShort 1921 = true
  bk : d.bulk ≤ m
theorem Tx.up {k m k' m' : Nat} {d : PyData} (h : Tx k m d) (hk : k ≤ k') (hm : m ≤ m') : Tx k' m' d := ⟨h.sh, h.nd, Nat.le_trans h.dp hk, h.lv, Nat.le_trans h.bk hm⟩
theorem Tx.int {i : Int} (h : i.natAbs.log2 < 1920) : Tx 0 0 (.int i) := by
  refine ⟨by simp [PyData.showable, h], by simp [PyData.hasDict], by simp [PyData.depth], ?_, by simp [PyData.bulk]⟩
  have := int_text_len_1921 h
  simpa [PyData.leavesShort, PyData.shown] using this
theorem Tx.bool {b : Bool} : Tx 0 0 (.bool b) := by
  refine ⟨by simp [PyData.showable], by simp [PyData.hasDict], by simp [PyData.depth], by simp [PyData.leavesShort], by simp [PyData.bulk]⟩
theorem Tx.none : Tx 0 0 .none := by
  refine ⟨by simp [PyData.showable], by simp [PyData.hasDict], by simp [PyData.depth], by simp [PyData.leavesShort], by simp [PyData.bulk]⟩
theorem tx_all {k m : Nat} : ∀ {ds : List PyData}, (∀ d ∈ ds, Tx k m d) → PyData.showableAll ds = true ∧ PyData.hasDictAll ds = false ∧ PyData.depthAll ds ≤ k ∧ PyData.leavesShortAll 1921 ds = true ∧ PyData.bulkAll ds ≤ ds.length * (m + 1)
  | [], _ => by simp [PyData.showableAll, PyData.hasDictAll, PyData.depthAll, PyData.leavesShortAll, PyData.bulkAll]
  | d :: ds, h => by
    have a := h d List.mem_cons_self
    obtain ⟨b1, b2, b3, b4, b5⟩ := tx_all fun e he => h e (List.mem_cons_of_mem _ he)
    refine ⟨by simp [PyData.showableAll, a.sh, b1], by simp [PyData.hasDictAll, a.nd, b2], ?_, by simp [PyData.leavesShortAll, a.lv, b4], ?_⟩
    · simp only [PyData.depthAll]
      have := a.dp
      omega
    · simp only [PyData.bulkAll, List.length_cons, Nat.succ_mul]
      have := a.bk
      omega
theorem Tx.tuple {k m n : Nat} {ds : List PyData} (h : ∀ d ∈ ds, Tx k m d) (hn : ds.length ≤ n) : Tx (k + 1) (n * (m + 1)) (.tuple ds) := by
  obtain ⟨b1, b2, b3, b4, b5⟩ := tx_all h
  have := Nat.mul_le_mul_right (m + 1) hn
  exact ⟨by simp [PyData.showable, b1], by simp [PyData.hasDict, b2], by simp only [PyData.depth]; omega, by simp [PyData.leavesShort, b4], by simp only [PyData.bulk]; omega⟩
theorem Tx.list {k m n : Nat} {ds : List PyData} (h : ∀ d ∈ ds, Tx k m d) (hn : ds.length ≤ n) : Tx (k + 1) (n * (m + 1)) (.list ds) := by
  obtain ⟨b1, b2, b3, b4, b5⟩ := tx_all h
  have := Nat.mul_le_mul_right (m + 1) hn
  exact ⟨by simp [PyData.showable, b1], by simp [PyData.hasDict, b2], by simp only [PyData.depth]; omega, by simp [PyData.leavesShort, b4], by simp only [PyData.bulk]; omega⟩
theorem Tx.ok {k m : Nat} {d : PyData} (h : Tx k m d) (hk : k ≤ 20) (hm : m ≤ 8000) : d.showable = true ∧ d.hasDict = false ∧ d.depth ≤ 20 ∧ d.shown.length ≤ sizeLine := by
  refine ⟨h.sh, h.nd, Nat.le_trans h.dp hk, ?_⟩
  have all := PyData.shown_le_bulk 1921 (by decide) _ h.lv
  have := h.bk
  rw [sizeLine_eq]
  omega
theorem log_of {i B : Int} (h : nat i ≤ B) (hB : B ≤ 2 ^ 1000) : i.natAbs.log2 < 1920 := by
  by_cases z : i.natAbs = 0
  · rw [z]
    decide
  · have h2 : (i.natAbs : Int) ≤ 2 ^ 1000 := by
      have : (i.natAbs : Int) = nat i := by unfold nat; split <;> omega
      omega
    have h3 : i.natAbs ≤ 2 ^ 1000 := by exact_mod_cast h2
    exact Nat.lt_trans ((Nat.log2_lt z).mpr (Nat.lt_of_le_of_lt h3 (Nat.pow_lt_pow_right (by decide) (by decide : 1000 < 1001)))) (by decide)
theorem tx_ints {xs : List Int} {B : Int} {n : Nat} (hl : xs.length ≤ n) (hb : ∀ x ∈ xs, nat x ≤ B) (hB : B ≤ 2 ^ 1000) : Tx 1 n (.tuple (xs.map .int)) := by
  have := Tx.tuple (k := 0) (m := 0) (n := n) (ds := xs.map PyData.int) (fun d hd => by
    obtain ⟨x, hx, rfl⟩ := List.mem_map.mp hd
    exact Tx.int (log_of (hb x hx) hB)) (by rw [List.length_map]; exact hl)
  rwa [Nat.mul_one] at this
theorem mutW_skew {f : Nat → Nat → Int} {p : Nat} (sk : ∀ i j, f i j = -f j i) (i j : Nat) : mutW f p i j = -mutW f p j i := by
  have h1 := sk i j
  have h2 := sk i p
  have h3 := sk p j
  have e : f j p * f p i = f i p * f p j := by rw [h2, h3, Int.neg_mul_neg, Int.mul_comm]
  unfold mutW
  rw [e]
  generalize f i p * f p j = m
  by_cases c : p = i ∨ p = j
  · rw [if_pos c, if_pos (show p = j ∨ p = i by omega), h1]
  · rw [if_neg c, if_neg (show ¬ (p = j ∨ p = i) by omega)]
    by_cases c1 : 0 < f i p ∧ 0 < f p j
    · rw [if_pos c1, if_neg (show ¬ (0 < f j p ∧ 0 < f p i) by omega), if_pos (show f j p < 0 ∧ f p i < 0 by omega)]
      omega
    · rw [if_neg c1]
      by_cases c2 : f i p < 0 ∧ f p j < 0
      · rw [if_pos c2, if_pos (show 0 < f j p ∧ 0 < f p i by omega)]
        omega
      · rw [if_neg c2, if_neg (show ¬ (0 < f j p ∧ 0 < f p i) by omega), if_neg (show ¬ (f j p < 0 ∧ f p i < 0) by omega)]
        exact h1
/-- nothing outside of the table -/
def Flat (n : Nat) (f : Nat → Nat → Int) : Prop := ∀ i j, n ≤ i ∨ n ≤ j → f i j = 0
def cutW (n : Nat) (f : Nat → Nat → Int) (i j : Nat) : Int := if i < n ∧ j < n then f i j else 0
theorem cutW_flat {n : Nat} {f : Nat → Nat → Int} : Flat n (cutW n f) := fun i j h => if_neg (by omega)
theorem cutW_le {n : Nat} {f : Nat → Nat → Int} {B : Int} (h : ∀ i j, nat (f i j) ≤ B) (i j : Nat) : nat (cutW n f i j) ≤ B := by
  unfold cutW
  split
  · exact h i j
  · exact Int.le_trans (Int.le_refl 0) (Int.le_trans (nat_nonneg _) (h i j))
theorem cutW_skew {n : Nat} {f : Nat → Nat → Int} (h : ∀ i j, f i j = -f j i) (i j : Nat) : cutW n f i j = -cutW n f j i := by
  unfold cutW
  by_cases c : i < n ∧ j < n
  · rw [if_pos c, if_pos (by omega)]
    exact h i j
  · rw [if_neg c, if_neg (by omega)]
    rfl
theorem MatAt.cut {H : Hp} {a : Addr} {n : Nat} {f : Nat → Nat → Int} (h : MatAt H a n f) : MatAt H a n (cutW n f) := by
  obtain ⟨rs, h1, h2, h3⟩ := h
  refine ⟨rs, h1, h2, fun i r z => ?_⟩
  have hi : i < n := by
    rw [← h1]
    exact (List.getElem?_eq_some_iff.mp z).1
  have e : rowOf n (cutW n f) i = rowOf n f i := List.map_congr_left fun j hj => if_pos ⟨hi, List.mem_range.mp hj⟩
  rw [e]
  exact h3 i r z
theorem Flat.turn {n p : Nat} {f : Nat → Nat → Int} (h : Flat n f) : Flat n (mutW f p) := fun i j c => by
  have h1 := h i j c
  unfold mutW
  by_cases c0 : p = i ∨ p = j
  · rw [if_pos c0, h1]
    rfl
  · rw [if_neg c0]
    rcases c with c | c
    · rw [h i p (.inl c), if_neg (by omega), if_neg (by omega)]
      exact h1
    · rw [h p j (.inr c), if_neg (by omega), if_neg (by omega)]
      exact h1
theorem flat_le {n : Nat} {f : Nat → Nat → Int} {B : Int} (fl : Flat n f) (h0 : 0 ≤ B) (h : ∀ i j, i < n → j < n → nat (f i j) ≤ B) (i j : Nat) : nat (f i j) ≤ B := by
  by_cases c : i < n ∧ j < n
  · exact h i j c.1 c.2
  · rw [fl i j (by omega)]
    exact h0
theorem gcdL_le {xs : List Int} {B : Int} (h0 : 0 ≤ B) (h : ∀ x ∈ xs, nat x ≤ B) : nat (gcdL xs) ≤ B := by
  cases hs : sizesL xs with
  | nil =>
    rw [gcdL_none hs]
    exact h0
  | cons s ss =>
    have hm : s ∈ sizesL xs := by rw [hs]; exact List.mem_cons_self
    obtain ⟨x, hx, _, rfl⟩ := mem_sizesL.mp hm
    have hd : ∀ x ∈ xs, gcdL xs ∣ x := by
      have := (gcdL_dvd (gcdL xs).natAbs xs).mp (by rw [← gcdL_cast]; exact Int.dvd_refl _)
      rwa [← gcdL_cast] at this
    have gle := Int.le_of_dvd (sizesL_pos hm) (sizesL_dvd.mpr hd _ hm)
    have g0 := gcdL_nn xs
    have : nat (gcdL xs) = gcdL xs := by unfold nat; rw [if_neg (by omega)]
    have := h x hx
    omega
def keptW (n : Nat) (f : Nat → Nat → Int) : List Int := (List.range n).map fun i => gcdL (rowOf n f i)
theorem keptW_turn {n p : Nat} {f : Nat → Nat → Int} (hp : p < n) : keptW n (mutW f p) = keptW n f := List.map_congr_left fun i _ => gcdL_turn hp
theorem row_le {n : Nat} {f : Nat → Nat → Int} {B : Int} {i : Nat} (h : ∀ i j, nat (f i j) ≤ B) : ∀ x ∈ rowOf n f i, nat x ≤ B := fun x hx => by
  obtain ⟨j, _, rfl⟩ := List.mem_map.mp hx
  exact h i j
theorem keptW_le {n : Nat} {f : Nat → Nat → Int} {B : Int} (h0 : 0 ≤ B) (h : ∀ i j, nat (f i j) ≤ B) : ∀ x ∈ keptW n f, nat x ≤ B := fun x hx => by
  obtain ⟨i, _, rfl⟩ := List.mem_map.mp hx
  exact gcdL_le h0 (row_le h)
theorem keptW_at {n : Nat} {f : Nat → Nat → Int} : ((List.range n).map fun i => V.int (gcdL (rowOf n f i))) = (keptW n f).map .int := by
  unfold keptW
  rw [List.map_map]
  rfl
theorem keptW_tx {n : Nat} {f : Nat → Nat → Int} {B : Int} (hn : n ≤ 5) (h0 : 0 ≤ B) (hB : B ≤ 2 ^ 1000) (h : ∀ i j, nat (f i j) ≤ B) : Tx 1 5 (.tuple ((keptW n f).map .int)) := tx_ints (by unfold keptW; rw [List.length_map, List.length_range]; exact hn) (keptW_le h0 h) hB
/-- a web's instance -/
def WebAt (K : PySem.W.Frag) (H : Hp) (s : Addr) (n : Nat) (f : Nat → Nat → Int) : Prop := ∃ dx a, H s = some (.ins (He.ga K "Web") dx [("_rows", .ref a)]) ∧ MatAt H a n f
theorem WebAt.ext {K : PySem.W.Frag} {H H' : Hp} {s : Addr} {n : Nat} {f : Nat → Nat → Int} (h : WebAt K H s n f) (e : Ext H H') : WebAt K H' s n f := by
  obtain ⟨dx, a, h1, h2⟩ := h
  exact ⟨dx, a, e _ _ h1, h2.ext e⟩
theorem ExtC.insP {c a C dx : Addr} {H H' : Hp} {fs : List (Str × V)} (e : ExtC c H H') (hc : Purse H c) (h : H a = some (.ins C dx fs)) : H' a = some (.ins C dx fs) := e a _ (fun z => by
  obtain ⟨d, x, n, h1, _⟩ := hc
  rw [z, h1] at h
  cases h) h
theorem WebAt.extC {K : PySem.W.Frag} {H H' : Hp} {c s : Addr} {n : Nat} {f : Nat → Nat → Int} (h : WebAt K H s n f) (hc : Purse H c) (e : ExtC c H H') : WebAt K H' s n f := by
  obtain ⟨dx, a, h1, h2⟩ := h
  exact ⟨dx, a, e.insP hc h1, h2.extC hc e⟩
/-- the web of zeros and fours -/
def zeroF (i j : Nat) : Int := if i = 1 ∧ j = 2 then 4 else if i = 2 ∧ j = 1 then -4 else 0
theorem zeroF_flat : Flat 3 zeroF := fun i j h => by
  unfold zeroF
  (rw [if_neg (by omega), if_neg (by omega)])
theorem zeroF_skew (i j : Nat) : zeroF i j = -zeroF j i := by
  unfold zeroF
  by_cases c1 : i = 1 ∧ j = 2
  · rw [if_pos c1, if_neg (by omega), if_pos (by omega)]
    rfl
  · rw [if_neg c1]
    by_cases c2 : i = 2 ∧ j = 1
    · rw [if_pos c2, if_pos (by omega)]
    · rw [if_neg c2, if_neg (by omega), if_neg (by omega)]
      rfl
theorem zeroF_le (i j : Nat) : nat (zeroF i j) ≤ WEB := by
  unfold zeroF
  split
  · decide
  · split <;> decide
theorem zeroF_turn (i j : Nat) : nat (mutW zeroF 1 i j) ≤ WEB := flat_le zeroF_flat.turn (by decide) (fun i j hi hj => by
  match i, j, hi, hj with
  | 0, 0, _, _ => decide
  | 0, 1, _, _ => decide
  | 0, 2, _, _ => decide
  | 1, 0, _, _ => decide
  | 1, 1, _, _ => decide
  | 1, 2, _, _ => decide
  | 2, 0, _, _ => decide
  | 2, 1, _, _ => decide
  | 2, 2, _, _ => decide) i j
theorem zeroF_kept : keptW 3 zeroF = [0, 4, 4] := by decide +kernel
theorem zeroF_mat {H : Hp} {a p q r : Addr} (ha : H a = some (.tup [.ref p, .ref q, .ref r])) (hp : H p = some (.tup [.int 0, .int 0, .int 0])) (hq : H q = some (.tup [.int 0, .int 0, .int 4])) (hr : H r = some (.tup [.int 0, .int (-4), .int 0])) : MatAt H a 3 zeroF := by
  refine ⟨[p, q, r], rfl, ha, fun i x hx => ?_⟩
  match i, hx with
  | 0, hx => cases Option.some.inj hx; exact hp
  | 1, hx => cases Option.some.inj hx; exact hq
  | 2, hx => cases Option.some.inj hx; exact hr
end At

namespace At
open L2 PyProof.Rows PySem.Spec PySem
section
variable {K : PySem.W.Frag} {c : Str} {H : Hp} {Q : VK} {a : Addr}
theorem go_isO {dx : Addr} {fs : List (Str × V)} (h : isOk K c = true) (cl : Cls K (He.ga K c)) (e : H a = some (.ins (He.ga K c) dx fs)) (q : Q (.bl true) H) : rIsi K [.ref a, .ref (He.ga K c)] H Q :=
  ⟨_, _, _, _, true, rfl, .own _, isOk.ty h cl e, same_kit _, q⟩
theorem go_isNo {xs : List V} (h : isOk K c = true) (e : H a = some (.tup xs)) (q : Q (.bl false) H) : rIsi K [.ref a, .ref (He.ga K c)] H Q := ⟨_, _, _, _, false, rfl, .own _, .base (.tup e), isOk.no h, q⟩
end
end At

namespace At
open L2 PyProof.Rows PySem.Spec PySem
/-! ### a def whose promise holds only where no repr is under way -/
def FnG (P : Program) (w : World) (K : PySem.W.Frag) (mg : Str → Option Value) (base : Heap) (k : Nat) (f : Addr) (sp : Sp) : Prop :=
  ∀ (A : Around) (outer : List Env) (s : Shared) (H : Hp) (us : List Value) (vs : List V) (Q : VK) (E : XK), A.guards = some [] → Room k A → Env0 P w K mg base A outer s H → Vals vs us → sp vs H Q E →
    codeAny (model P w) A (.call (.ref f) ⟨us, []⟩) (CR CX0 outer P w H s Q E) s
section
variable {P : Program} {w : World} {K : PySem.W.Frag} {mg : Str → Option Value} {base : Heap} {x q : Str} {st : Stmt} {f : Addr} {fd : FuncData} {N ps : List Str} {k : Nat} {sp : Sp}
theorem okG (F : Fun K x q st f fd) (S : FnScope N ps (defScope st)) (len : ∀ vs H Q E, sp vs H Q E → vs.length = ps.length)
    (binds : ∀ (kV doc pm : Value) (an : Option Addr) (cdv ct : Value) (us : List Value), us.length = ps.length → bindArgs (PySem.W.fnOf x q (defArgs st) (defBody st) (defScope st) .none kV doc pm an cdv ct) ⟨us, []⟩ = pure (ps.zip us))
    (body : ∀ (cdv : Value) (A : Around) (outer : List Env) (s : Shared) (H : Hp) (vs : List V) (Q : VK) (E : XK), A.guards = some [] → Room k (A.deeper (envOfC q (defScope st) s.heap.objs.size f cdv)) → sp vs H Q E →
      ∃ t, PSs (cxOf CX0 P w K mg base N q (defScope st) f cdv A outer s H E).nox (defBody st) t ∧ t { nx := fun _ H' => Q .non H', rt := Q } (start N vs) H) : FnG P w K mg base (k + 1) f sp := by
  intro A outer s H us vs Q E quiet room e0 rv hsp
  obtain ⟨_, _, kV, doc, pm, an, cdv, ct, _, rfl, lk, hcd⟩ := F.ex
  have many : vs.length = ps.length := len _ _ _ _ hsp
  have here : K.In s.heap := e0.mod.kin.keeps fun b o e => (e0.bs b o e).1
  have free : s.heap.NoLimit := e0.mod.nolimit.keeps fun b o e => (e0.bs b o e).1
  obtain ⟨t, ht, hq⟩ := body cdv A outer s H vs Q E quiet (room.deeper _) hsp
  refine codeAny_call_function room.depth (here _ _ lk) rfl S.co S.gen rfl (PySem.W.codeRec_of here hcd) ?_
  refine BindsTo.of_eq (binds kV doc pm an cdv ct us (rv.length.symm.trans many)) _ _ _ _ ?_
  refine wpAny_newFunctionEnv_cells S.kind (fun y hy => (S.par y.1 (List.of_mem_zip (a := y.1) (b := y.2) hy).1).imp id fun c => ⟨c, PySem.W.cellsFrom_some _ _ _ (.inl c)⟩) fun env he s1 made => ?_
  subst he
  refine ⟨free.keeps made.toInCall.keep, codeAny_func (wpAny_mono (ht.nox.run [] s1 _ H _ (inv_start S room.hd e0 many rv made) hq) (fun fl s' z => ?_) fun _ _ z => z)⟩
  match fl, z with
  | .ret _, ⟨v, _, H', J, r, q'⟩ => exact ⟨v, H', J.os, J.bare, J.base, J.hok, r, q'⟩
  | .next, ⟨_, H', J, q'⟩ => exact ⟨.non, H', J.os, J.bare, J.base, J.hok, rfl, q'⟩
  | .brk, ⟨_, _, _, q'⟩ => exact q'.elim
  | .cont, ⟨_, _, _, q'⟩ => exact q'.elim
end
/-- f(e, ..), f such a def -/
theorem pe_callG {X : Cx} {k : Nat} {f : Addr} {sp : Sp} {E : XK} {x : Str} {e : Expr} {es : List Expr} {t : TA} {p pos : Pos} (F : FnG X.prog X.w X.K X.mg X.base k f sp) (quiet : X.A.guards = some []) (hr : Room k X.A) (hg : Gl X x) (hm : X.mg x = some (.ref f)) (hk : PySem.W.keepIn X.K (.ref f) = true)
    (hx : Passes CX0 X E) (ha : PA X (e :: es) t) (hd : (x == ("__debug__" : Str)) = false := by decide) (he : starEach (e :: es) X.env = (false, eval e X.env) :: starEach es X.env := by rfl) (plain : (backTo pos (starEach es X.env)).any (·.1) = false := by rfl) :
    PE X (.Call (.Name x p) (e :: es) [] pos) fun σ H Q => t σ H fun ws H1 => sp ws H1 Q E := by
  constructor
  intro pins s σ H Q I h
  refine wpAny_Call_Name_kw (ld_glob I hg hm (PySem.W.callWith_K (h₀ := X.base) I.ok.mod.kin hk (thn (ha.run pos pins s σ H _ I h) fun us s1 z => ?_) he plain) hd)
  obtain ⟨vs, H1, I1, r, q⟩ := z
  refine ⟨I1.kIn, wpAny_call (codeAny_mono (F X.A X.stack s1 H1 us vs Q E quiet hr I1.env0 r q) fun z s' hz => ?_)⟩
  match z, hz with
  | .error e, hz => exact hx pins σ H1 s1 e s' I1 hz
  | .ok (.ret _), hz => exact I1.after hz
end At

namespace At
open L2 PyProof.Rows PySem.Spec PySem
def top (i : Nat) : Stmt := PySem.Challenge.pw_arrowtrios_k56_whole_numbers_kept_of_web.main.body.getD i (.Pass ⟨0, 0, 0, 0⟩)
abbrev s_is_integer : Stmt := top 10
abbrev s_is_integer_within : Stmt := top 11
abbrev s_check_rows : Stmt := top 14
abbrev s_is_row : Stmt := top 15
abbrev s_rows_behind : Stmt := top 16
abbrev s_row_behind : Stmt := top 17
abbrev s_number_behind : Stmt := top 18
abbrev s_is_too_great : Stmt := top 19
abbrev s_kept_of : Stmt := top 20
abbrev s__law_cell : Stmt := top 22
abbrev s__law_purse : Stmt := top 23
abbrev s__law_roll : Stmt := top 24
abbrev s__law_pick : Stmt := top 25
abbrev s__law_rows : Stmt := top 26
abbrev s__law_rows_behind : Stmt := top 27
abbrev s__law_size : Stmt := top 28
abbrev s__law_common : Stmt := top 29
abbrev s__law_multiplied : Stmt := top 30
abbrev s__law_case_right : Stmt := top 31
abbrev s_law : Stmt := top 32
abbrev s_Web___init__ : Stmt := inClass (top 13) 0
abbrev s_Web_rows : Stmt := inClass (top 13) 1
abbrev s_Web_kept : Stmt := inClass (top 13) 2
abbrev s_Web_turn : Stmt := inClass (top 13) 3
abbrev s_Web___eq__ : Stmt := inClass (top 13) 4
def fa : List He.Fa := ([.glo "is_integer", .glo "is_integer_within", .glo "check_rows", .glo "is_row", .glo "rows_behind", .glo "row_behind", .glo "number_behind", .glo "is_too_great", .glo "kept_of", .glo "_law_cell", .glo "_law_purse", .glo "_law_roll", .glo "_law_pick", .glo "_law_rows", .glo "_law_rows_behind", .glo "_law_size", .glo "_law_common", .glo "_law_multiplied", .glo "_law_case_right", .glo "law", .glo "Web", .cls "Web", .mkr "Web", .noat "Web" "_rows", .meth "Web" "turn", .int "MOST_PLACES" (5), .int "MOST_WEB" ((10 ^ 30)), .free "len", .free "range", .free "min"] : List He.Fa) ++ ([.free "max", .free "abs", .free "isinstance", .free "int", .free "bool", .free "tuple", .free "list", .free "all", .free "enumerate", .free "divmod", .free "repr"] : List He.Fa)
def fn : List He5.DefA := ([atG "is_integer" s_is_integer, atG "is_integer_within" s_is_integer_within, atG "check_rows" s_check_rows, atG "is_row" s_is_row, atG "rows_behind" s_rows_behind, atG "row_behind" s_row_behind, atG "number_behind" s_number_behind, atG "is_too_great" s_is_too_great, atG "kept_of" s_kept_of, atG "_law_cell" s__law_cell, atG "_law_purse" s__law_purse, atG "_law_roll" s__law_roll, atG "_law_pick" s__law_pick, atG "_law_rows" s__law_rows, atG "_law_rows_behind" s__law_rows_behind, atG "_law_size" s__law_size, atG "_law_common" s__law_common, atG "_law_multiplied" s__law_multiplied, atG "_law_case_right" s__law_case_right, atG "law" s_law, atM "Web" "__init__" "Web.__init__" s_Web___init__, atP "Web" "rows" "Web.rows" s_Web_rows, atP "Web" "kept" "Web.kept" s_Web_kept, atM "Web" "turn" "Web.turn" s_Web_turn, atM "Web" "__eq__" "Web.__eq__" s_Web___eq__] : List He5.DefA)
def ts : List He.Tab := []
def ex (K : PySem.W.Frag) : Bool := propOk K "Web" "rows" && (propOk K "Web" "kept" && (eqOk K "Web" && (isOk K "Web" && (He.eqO (PySem.W.nsIn K mainGlobals "gcd") (some (some (.builtin "math.gcd")))))))
def tabsOf (K : PySem.W.Frag) : List (Option (List (Option (Str × Int)))) := ts.map fun t => He.dicW K (t.1 K)
def tabsAt (w : World) : List (Option (List (Option (Str × Int)))) := ts.map fun t => some (He.keysIn w.params t.2)
abbrev Seen : Type := (He.AlD × List (Option (List (Option (Str × Int))))) × Bool
def part (n : Nat) (g : Addr → Option Obj) : PySem.W.Frag := He.frG g (He5.asA g n)
def looks (n : Nat) (g : Addr → Option Obj) : Seen := ((He5.obsA fa fn (part n g), tabsOf (part n g)), ex (part n g))
def hook (n : Nat) : PySem.W.Hook where
  α := Seen
  obs s := looks n s.heap.get?
  val w := ((He5.valA fn, tabsAt w), true)
  says w h := ∃ K : PySem.W.Frag, K.In h ∧ He5.SaysA fa fn K ∧ tabsOf K = tabsAt w ∧ ex K = true
  of _ _ e := ⟨_, He.frG_in, congrArg (fun z : Seen => z.1.1) e, congrArg (fun z : Seen => z.1.2) e, congrArg Prod.snd e⟩
  keeps _ _ _ z k := let ⟨K, i, c⟩ := z; ⟨K, PySem.W.Frag.In.keeps i k, c⟩
structure Top (w : World) (K : PySem.W.Frag) (mg : Str → Option Value) : Prop where
  s : He5.SaysA fa fn K
  t : tabsOf K = tabsAt w
  e : ex K = true
  x : ∃ h : Heap, K.In h ∧ h.Ns mainGlobals mg
section
variable {w : World} {K : PySem.W.Frag} {mg : Str → Option Value}
theorem Top.tab (T : Top w K mg) (i : Nat) {t : He.Tab} (h : ts[i]? = some t := by rfl) : ∃ es n, KDict K w (t.1 K) es n := by
  have e : (ts.map fun t => He.dicW K (t.1 K))[i]? = (ts.map fun t => some (He.keysIn w.params t.2))[i]? := congrArg (fun z : List (Option (List (Option (Str × Int)))) => z[i]?) T.t
  rw [List.getElem?_map, List.getElem?_map, h] at e
  exact He.dicW_ok (Option.some.inj e)
theorem Top.g_is_integer (T : Top w K mg) : mg "is_integer" = some (.ref (He.ga K "is_integer")) := let ⟨_, X, G⟩ := T.x; He.glo_ok X G (T.s.fact 0)
theorem Top.g_is_integer_within (T : Top w K mg) : mg "is_integer_within" = some (.ref (He.ga K "is_integer_within")) := let ⟨_, X, G⟩ := T.x; He.glo_ok X G (T.s.fact 1)
theorem Top.g_check_rows (T : Top w K mg) : mg "check_rows" = some (.ref (He.ga K "check_rows")) := let ⟨_, X, G⟩ := T.x; He.glo_ok X G (T.s.fact 2)
theorem Top.g_is_row (T : Top w K mg) : mg "is_row" = some (.ref (He.ga K "is_row")) := let ⟨_, X, G⟩ := T.x; He.glo_ok X G (T.s.fact 3)
theorem Top.g_rows_behind (T : Top w K mg) : mg "rows_behind" = some (.ref (He.ga K "rows_behind")) := let ⟨_, X, G⟩ := T.x; He.glo_ok X G (T.s.fact 4)
theorem Top.g_row_behind (T : Top w K mg) : mg "row_behind" = some (.ref (He.ga K "row_behind")) := let ⟨_, X, G⟩ := T.x; He.glo_ok X G (T.s.fact 5)
theorem Top.g_number_behind (T : Top w K mg) : mg "number_behind" = some (.ref (He.ga K "number_behind")) := let ⟨_, X, G⟩ := T.x; He.glo_ok X G (T.s.fact 6)
theorem Top.g_is_too_great (T : Top w K mg) : mg "is_too_great" = some (.ref (He.ga K "is_too_great")) := let ⟨_, X, G⟩ := T.x; He.glo_ok X G (T.s.fact 7)
theorem Top.g_kept_of (T : Top w K mg) : mg "kept_of" = some (.ref (He.ga K "kept_of")) := let ⟨_, X, G⟩ := T.x; He.glo_ok X G (T.s.fact 8)
theorem Top.g__law_cell (T : Top w K mg) : mg "_law_cell" = some (.ref (He.ga K "_law_cell")) := let ⟨_, X, G⟩ := T.x; He.glo_ok X G (T.s.fact 9)
theorem Top.g__law_purse (T : Top w K mg) : mg "_law_purse" = some (.ref (He.ga K "_law_purse")) := let ⟨_, X, G⟩ := T.x; He.glo_ok X G (T.s.fact 10)
theorem Top.g__law_roll (T : Top w K mg) : mg "_law_roll" = some (.ref (He.ga K "_law_roll")) := let ⟨_, X, G⟩ := T.x; He.glo_ok X G (T.s.fact 11)
theorem Top.g__law_pick (T : Top w K mg) : mg "_law_pick" = some (.ref (He.ga K "_law_pick")) := let ⟨_, X, G⟩ := T.x; He.glo_ok X G (T.s.fact 12)
theorem Top.g__law_rows (T : Top w K mg) : mg "_law_rows" = some (.ref (He.ga K "_law_rows")) := let ⟨_, X, G⟩ := T.x; He.glo_ok X G (T.s.fact 13)
theorem Top.g__law_rows_behind (T : Top w K mg) : mg "_law_rows_behind" = some (.ref (He.ga K "_law_rows_behind")) := let ⟨_, X, G⟩ := T.x; He.glo_ok X G (T.s.fact 14)
theorem Top.g__law_size (T : Top w K mg) : mg "_law_size" = some (.ref (He.ga K "_law_size")) := let ⟨_, X, G⟩ := T.x; He.glo_ok X G (T.s.fact 15)
theorem Top.g__law_common (T : Top w K mg) : mg "_law_common" = some (.ref (He.ga K "_law_common")) := let ⟨_, X, G⟩ := T.x; He.glo_ok X G (T.s.fact 16)
theorem Top.g__law_multiplied (T : Top w K mg) : mg "_law_multiplied" = some (.ref (He.ga K "_law_multiplied")) := let ⟨_, X, G⟩ := T.x; He.glo_ok X G (T.s.fact 17)
theorem Top.g__law_case_right (T : Top w K mg) : mg "_law_case_right" = some (.ref (He.ga K "_law_case_right")) := let ⟨_, X, G⟩ := T.x; He.glo_ok X G (T.s.fact 18)
theorem Top.g_law (T : Top w K mg) : mg "law" = some (.ref (He.ga K "law")) := let ⟨_, X, G⟩ := T.x; He.glo_ok X G (T.s.fact 19)
theorem Top.g_Web (T : Top w K mg) : mg "Web" = some (.ref (He.ga K "Web")) := let ⟨_, X, G⟩ := T.x; He.glo_ok X G (T.s.fact 20)
theorem Top.c_Web (T : Top w K mg) : Cls K (He.ga K "Web") := He.cls_ok (T.s.fact 21)
theorem Top.m_Web (T : Top w K mg) : Mk K (He.ga K "Web") (He.ma K (He.ga K "Web") "__init__") := He.mkr_ok (T.s.fact 22)
theorem Top.na_Web_rows (T : Top w K mg) : NoAttr K (He.ga K "Web") "_rows" := He.noat_ok (T.s.fact 23)
theorem Top.me_Web_turn (T : Top w K mg) : Meth K (He.ga K "Web") "turn" (method K "Web" "turn") := He.meth_ok (T.s.fact 24)
theorem Top.n_MOST_PLACES (T : Top w K mg) : ∃ u, mg "MOST_PLACES" = some u ∧ RelV (.int (5)) u := let ⟨_, X, G⟩ := T.x; let ⟨t, e⟩ := He.int_ok X G (T.s.fact 25); ⟨_, e, t, rfl⟩
theorem Top.n_MOST_WEB (T : Top w K mg) : ∃ u, mg "MOST_WEB" = some u ∧ RelV (.int ((10 ^ 30))) u := let ⟨_, X, G⟩ := T.x; let ⟨t, e⟩ := He.int_ok X G (T.s.fact 26); ⟨_, e, t, rfl⟩
theorem Top.b_len (T : Top w K mg) : mg "len" = none := let ⟨_, X, G⟩ := T.x; He.free_ok X G (T.s.fact 27)
theorem Top.b_range (T : Top w K mg) : mg "range" = none := let ⟨_, X, G⟩ := T.x; He.free_ok X G (T.s.fact 28)
theorem Top.b_min (T : Top w K mg) : mg "min" = none := let ⟨_, X, G⟩ := T.x; He.free_ok X G (T.s.fact 29)
theorem Top.b_max (T : Top w K mg) : mg "max" = none := let ⟨_, X, G⟩ := T.x; He.free_ok X G (T.s.fact 30)
theorem Top.b_abs (T : Top w K mg) : mg "abs" = none := let ⟨_, X, G⟩ := T.x; He.free_ok X G (T.s.fact 31)
theorem Top.b_isinstance (T : Top w K mg) : mg "isinstance" = none := let ⟨_, X, G⟩ := T.x; He.free_ok X G (T.s.fact 32)
theorem Top.b_int (T : Top w K mg) : mg "int" = none := let ⟨_, X, G⟩ := T.x; He.free_ok X G (T.s.fact 33)
theorem Top.b_bool (T : Top w K mg) : mg "bool" = none := let ⟨_, X, G⟩ := T.x; He.free_ok X G (T.s.fact 34)
theorem Top.b_tuple (T : Top w K mg) : mg "tuple" = none := let ⟨_, X, G⟩ := T.x; He.free_ok X G (T.s.fact 35)
theorem Top.b_list (T : Top w K mg) : mg "list" = none := let ⟨_, X, G⟩ := T.x; He.free_ok X G (T.s.fact 36)
theorem Top.b_all (T : Top w K mg) : mg "all" = none := let ⟨_, X, G⟩ := T.x; He.free_ok X G (T.s.fact 37)
theorem Top.b_enumerate (T : Top w K mg) : mg "enumerate" = none := let ⟨_, X, G⟩ := T.x; He.free_ok X G (T.s.fact 38)
theorem Top.b_divmod (T : Top w K mg) : mg "divmod" = none := let ⟨_, X, G⟩ := T.x; He.free_ok X G (T.s.fact 39)
theorem Top.b_repr (T : Top w K mg) : mg "repr" = none := let ⟨_, X, G⟩ := T.x; He.free_ok X G (T.s.fact 40)
theorem Top.f_is_integer (T : Top w K mg) : ∃ fd, Fun K "is_integer" "is_integer" s_is_integer (He.ga K "is_integer") fd := let ⟨fd, F⟩ := T.s.def_ (d := atG "is_integer" s_is_integer) 0; ⟨fd, He5.fun_of F⟩
theorem Top.f_is_integer_within (T : Top w K mg) : ∃ fd, Fun K "is_integer_within" "is_integer_within" s_is_integer_within (He.ga K "is_integer_within") fd := let ⟨fd, F⟩ := T.s.def_ (d := atG "is_integer_within" s_is_integer_within) 1; ⟨fd, He5.fun_of F⟩
theorem Top.f_check_rows (T : Top w K mg) : ∃ fd, Fun K "check_rows" "check_rows" s_check_rows (He.ga K "check_rows") fd := let ⟨fd, F⟩ := T.s.def_ (d := atG "check_rows" s_check_rows) 2; ⟨fd, He5.fun_of F⟩
theorem Top.f_is_row (T : Top w K mg) : ∃ fd, Fun K "is_row" "is_row" s_is_row (He.ga K "is_row") fd := let ⟨fd, F⟩ := T.s.def_ (d := atG "is_row" s_is_row) 3; ⟨fd, He5.fun_of F⟩
theorem Top.f_rows_behind (T : Top w K mg) : ∃ fd, Fun K "rows_behind" "rows_behind" s_rows_behind (He.ga K "rows_behind") fd := let ⟨fd, F⟩ := T.s.def_ (d := atG "rows_behind" s_rows_behind) 4; ⟨fd, He5.fun_of F⟩
theorem Top.f_row_behind (T : Top w K mg) : ∃ fd, Fun K "row_behind" "row_behind" s_row_behind (He.ga K "row_behind") fd := let ⟨fd, F⟩ := T.s.def_ (d := atG "row_behind" s_row_behind) 5; ⟨fd, He5.fun_of F⟩
theorem Top.f_number_behind (T : Top w K mg) : ∃ fd, Fun K "number_behind" "number_behind" s_number_behind (He.ga K "number_behind") fd := let ⟨fd, F⟩ := T.s.def_ (d := atG "number_behind" s_number_behind) 6; ⟨fd, He5.fun_of F⟩
theorem Top.f_is_too_great (T : Top w K mg) : ∃ fd, Fun K "is_too_great" "is_too_great" s_is_too_great (He.ga K "is_too_great") fd := let ⟨fd, F⟩ := T.s.def_ (d := atG "is_too_great" s_is_too_great) 7; ⟨fd, He5.fun_of F⟩
theorem Top.f_kept_of (T : Top w K mg) : ∃ fd, Fun K "kept_of" "kept_of" s_kept_of (He.ga K "kept_of") fd := let ⟨fd, F⟩ := T.s.def_ (d := atG "kept_of" s_kept_of) 8; ⟨fd, He5.fun_of F⟩
theorem Top.f__law_cell (T : Top w K mg) : ∃ fd, Fun K "_law_cell" "_law_cell" s__law_cell (He.ga K "_law_cell") fd := let ⟨fd, F⟩ := T.s.def_ (d := atG "_law_cell" s__law_cell) 9; ⟨fd, He5.fun_of F⟩
theorem Top.f__law_purse (T : Top w K mg) : ∃ fd, Fun K "_law_purse" "_law_purse" s__law_purse (He.ga K "_law_purse") fd := let ⟨fd, F⟩ := T.s.def_ (d := atG "_law_purse" s__law_purse) 10; ⟨fd, He5.fun_of F⟩
theorem Top.f__law_roll (T : Top w K mg) : ∃ fd, Fun K "_law_roll" "_law_roll" s__law_roll (He.ga K "_law_roll") fd := let ⟨fd, F⟩ := T.s.def_ (d := atG "_law_roll" s__law_roll) 11; ⟨fd, He5.fun_of F⟩
theorem Top.f__law_pick (T : Top w K mg) : ∃ fd, Fun K "_law_pick" "_law_pick" s__law_pick (He.ga K "_law_pick") fd := let ⟨fd, F⟩ := T.s.def_ (d := atG "_law_pick" s__law_pick) 12; ⟨fd, He5.fun_of F⟩
theorem Top.f__law_rows (T : Top w K mg) : ∃ fd, Fun K "_law_rows" "_law_rows" s__law_rows (He.ga K "_law_rows") fd := let ⟨fd, F⟩ := T.s.def_ (d := atG "_law_rows" s__law_rows) 13; ⟨fd, He5.fun_of F⟩
theorem Top.f__law_rows_behind (T : Top w K mg) : ∃ fd, Fun K "_law_rows_behind" "_law_rows_behind" s__law_rows_behind (He.ga K "_law_rows_behind") fd := let ⟨fd, F⟩ := T.s.def_ (d := atG "_law_rows_behind" s__law_rows_behind) 14; ⟨fd, He5.fun_of F⟩
theorem Top.f__law_size (T : Top w K mg) : ∃ fd, Fun K "_law_size" "_law_size" s__law_size (He.ga K "_law_size") fd := let ⟨fd, F⟩ := T.s.def_ (d := atG "_law_size" s__law_size) 15; ⟨fd, He5.fun_of F⟩
theorem Top.f__law_common (T : Top w K mg) : ∃ fd, Fun K "_law_common" "_law_common" s__law_common (He.ga K "_law_common") fd := let ⟨fd, F⟩ := T.s.def_ (d := atG "_law_common" s__law_common) 16; ⟨fd, He5.fun_of F⟩
theorem Top.f__law_multiplied (T : Top w K mg) : ∃ fd, Fun K "_law_multiplied" "_law_multiplied" s__law_multiplied (He.ga K "_law_multiplied") fd := let ⟨fd, F⟩ := T.s.def_ (d := atG "_law_multiplied" s__law_multiplied) 17; ⟨fd, He5.fun_of F⟩
theorem Top.f__law_case_right (T : Top w K mg) : ∃ fd, Fun K "_law_case_right" "_law_case_right" s__law_case_right (He.ga K "_law_case_right") fd := let ⟨fd, F⟩ := T.s.def_ (d := atG "_law_case_right" s__law_case_right) 18; ⟨fd, He5.fun_of F⟩
theorem Top.f_law (T : Top w K mg) : ∃ fd, Fun K "law" "law" s_law (He.ga K "law") fd := let ⟨fd, F⟩ := T.s.def_ (d := atG "law" s_law) 19; ⟨fd, He5.fun_of F⟩
theorem Top.f_Web___init__ (T : Top w K mg) : ∃ fd, Fun K "__init__" "Web.__init__" s_Web___init__ (method K "Web" "__init__") fd := let ⟨fd, F⟩ := T.s.def_ (d := atM "Web" "__init__" "Web.__init__" s_Web___init__) 20; ⟨fd, He5.fun_of F⟩
theorem Top.f_Web_rows (T : Top w K mg) : ∃ fd, Fun K "rows" "Web.rows" s_Web_rows (getter K "Web" "rows") fd := let ⟨fd, F⟩ := T.s.def_ (d := atP "Web" "rows" "Web.rows" s_Web_rows) 21; ⟨fd, He5.fun_of F⟩
theorem Top.f_Web_kept (T : Top w K mg) : ∃ fd, Fun K "kept" "Web.kept" s_Web_kept (getter K "Web" "kept") fd := let ⟨fd, F⟩ := T.s.def_ (d := atP "Web" "kept" "Web.kept" s_Web_kept) 22; ⟨fd, He5.fun_of F⟩
theorem Top.f_Web_turn (T : Top w K mg) : ∃ fd, Fun K "turn" "Web.turn" s_Web_turn (method K "Web" "turn") fd := let ⟨fd, F⟩ := T.s.def_ (d := atM "Web" "turn" "Web.turn" s_Web_turn) 23; ⟨fd, He5.fun_of F⟩
theorem Top.f_Web___eq__ (T : Top w K mg) : ∃ fd, Fun K "__eq__" "Web.__eq__" s_Web___eq__ (method K "Web" "__eq__") fd := let ⟨fd, F⟩ := T.s.def_ (d := atM "Web" "__eq__" "Web.__eq__" s_Web___eq__) 24; ⟨fd, He5.fun_of F⟩
theorem Top.x_prop_Web_rows (T : Top w K mg) : propOk K "Web" "rows" = true := (He.ba T.e).1
theorem Top.x_prop_Web_kept (T : Top w K mg) : propOk K "Web" "kept" = true := (He.ba (He.ba T.e).2).1
theorem Top.x_eq_Web (T : Top w K mg) : eqOk K "Web" = true := (He.ba (He.ba (He.ba T.e).2).2).1
theorem Top.x_is_Web (T : Top w K mg) : isOk K "Web" = true := (He.ba (He.ba (He.ba (He.ba T.e).2).2).2).1
theorem Top.x_imp_gcd (T : Top w K mg) : He.eqO (PySem.W.nsIn K mainGlobals "gcd") (some (some (.builtin "math.gcd"))) = true := (He.ba (He.ba (He.ba (He.ba T.e).2).2).2).2
theorem Top.gcd_ (T : Top w K mg) : mg "gcd" = some (.builtin "math.gcd") := let ⟨_, X, G⟩ := T.x; PySem.W.mg_of X G (He.eqO_ok T.x_imp_gcd)
end
end At

namespace At
open L2 PyProof.Rows PySem.Spec PySem
abbrev R : PySem.W.OpenRow := PySem.W.OpenLaw.row PySem.Challenge.rw_arrowtrios_k56_whole_numbers_kept_of_web
abbrev hk : PySem.W.Hook := hook 8
def ob (s : PySem.W.SharedT) : Seen := looks 8 (HandSHeadRun.getT s)
theorem ob_eq (s : PySem.W.SharedT) : ob s = hk.obs s.abs := congrArg (looks 8) (funext (HandSHeadRun.getT_eq s))
def loose : List Str := (["WrongValue", "InvalidPlace", "InvalidRows", "NoAnswer", "TooGreat", "MOST_PLACES", "MOST_WEB", "is_integer", "is_integer_within", "Web", "check_rows", "is_row", "rows_behind", "row_behind", "number_behind", "is_too_great", "kept_of", "_law_cell", "_law_purse", "_law_roll", "_law_pick", "_law_rows", "_law_rows_behind", "_law_size", "_law_common", "_law_multiplied", "_law_case_right"] : List Str)
theorem run0 (w : World) : HandSHeadRun.RunEqI R (PySem.W.view R.prog [0, 32]) hk ob 9000 loose (w.withFollow "special-get-raises" false) := by
  unfold HandSHeadRun.RunEqI
  kernel_rfl
theorem run1 (w : World) : HandSHeadRun.RunEqI R (PySem.W.view R.prog [0, 32]) hk ob 9000 loose (w.withFollow "special-get-raises" true) := by
  unfold HandSHeadRun.RunEqI
  kernel_rfl
theorem run (w : World) : HandSHeadRun.RunEqI R (PySem.W.view R.prog [0, 32]) hk ob 9000 loose w := PySem.W.byRow2 "special-get-raises" (P := fun w => HandSHeadRun.RunEqI R (PySem.W.view R.prog [0, 32]) hk ob 9000 loose w) run0 run1 w
end At

local macro_rules | `(tactic| walk_at "mem") => `(tactic| first
  | assumption
  | exact L2.upd_same
  | (refine At.mem_new (by assumption) ?_; walk_at "mem")
  | (refine At.mem_ext (by assumption) ?_; walk_at "mem"))
local macro_rules | `(tactic| walk_at "side") => `(tactic| first
  | decide
  | omega
  | (dsimp only; omega)
  | exact Or.inl ⟨by omega, by omega⟩
  | exact Or.inr ⟨by omega, by omega⟩
  | exact ⟨by omega, by omega⟩)
local macro_rules | `(tactic| walk_at "go") => `(tactic| first
  | ((with_reducible refine' At.go_var ?hvar ?_); (case hvar => rfl))
  | with_reducible refine At.go_c ?_
  | with_reducible refine At.go_seq_set ?_
  | with_reducible refine At.go_seq_drop ?_
  | with_reducible refine At.go_seq_if ?_
  | with_reducible refine At.go_seq_asg ?_
  | with_reducible refine At.go_seq ?_
  | with_reducible refine At.go_set ?_
  | with_reducible refine At.go_asg ?_
  | with_reducible refine At.go_ret ?_
  | with_reducible refine At.go_retN ?_
  | with_reducible refine At.go_drop ?_
  | with_reducible refine At.go_ifS ?_
  | with_reducible refine At.go_op ?_
  | with_reducible refine At.go_un ?_
  | with_reducible refine At.go_rI0 ?_
  | with_reducible refine At.go_rU ?_
  | ((with_reducible refine' At.go_rI ?hside ?_); (case hside => walk_at "side"))
  | with_reducible refine At.go_rEqI ?_
  | with_reducible refine At.go_rNeI ?_
  | with_reducible refine At.go_rEqS ?_
  | with_reducible refine At.go_rNeS ?_
  | with_reducible refine At.go_bl ?_
  | with_reducible refine At.go_test ?_
  | with_reducible refine At.go_tB ?_
  | with_reducible refine At.go_and ?_
  | with_reducible refine At.go_or ?_
  | with_reducible refine At.go_not ?_
  | with_reducible refine At.go_andV ?_
  | with_reducible refine At.go_orV ?_
  | with_reducible refine At.go_notV ?_
  | with_reducible refine At.go_tIf ?_
  | with_reducible refine At.go_chain ?_
  | with_reducible refine At.go_cons ?_
  | with_reducible refine At.go_nil ?_
  | with_reducible refine At.go_cb ?_
  | with_reducible refine At.go_call ?_
  | with_reducible refine At.go_tup ?_
  | with_reducible refine At.go_lst ?_
  | with_reducible refine At.go_sl ?_
  | with_reducible refine At.go_noPart ?_
  | with_reducible refine At.go_part ?_
  | with_reducible refine At.go_prop ?_
  | with_reducible refine At.go_meth ?_
  | with_reducible refine At.go_tidx ?_
  | with_reducible refine At.go_makeR ?_
  | with_reducible refine At.go_makeK ?_
  | with_reducible refine At.go_makeS ?_
  | with_reducible refine At.go_star ?_
  | with_reducible refine At.go_make ?_
  | with_reducible refine At.go_sfld ?_
  | with_reducible refine At.go_fld ?_
  | with_reducible refine At.go_gName ?_
  | with_reducible refine At.go_gSub ?_
  | with_reducible refine At.go_gCons ?_
  | with_reducible refine At.go_gNil ?_
  | with_reducible refine At.go_par ?_
  | with_reducible refine At.go_par3 ?_
  | with_reducible refine At.go_two ?_
  | with_reducible refine At.go_three ?_
  | with_reducible refine At.go_for ?_
  | with_reducible refine At.go_iList ?_
  | with_reducible refine At.go_iTup ?_
  | with_reducible refine At.go_iStr ?_
  | with_reducible refine At.go_isS ?_
  | with_reducible refine At.go_iRng1 ?_
  | with_reducible refine At.go_iRng2 ?_
  | with_reducible refine At.go_iEnT ?_
  | with_reducible refine At.go_iteT ?_
  | with_reducible refine At.go_iteF ?_
  | with_reducible refine At.go_iteNT ?_
  | with_reducible refine At.go_iteNF ?_
  | with_reducible refine At.go_next ?_
  | with_reducible refine At.go_ipI ?_
  | with_reducible refine At.go_augS ?_
  | with_reducible refine At.go_revL ?_
  | with_reducible refine At.go_back ?_
  | with_reducible refine At.go_callN0 ?_
  | ((with_reducible refine' At.go_aug ?hvar ?_); (case hvar => rfl))
  | with_reducible refine ⟨_, rfl, ?_⟩
  | with_reducible refine ⟨_, _, rfl, ?_⟩
  | with_reducible refine ⟨_, _, rfl, rfl, ?_⟩
  | with_reducible refine ⟨Evl.sz_of (Nat.le_of_ble_eq_true rfl), ?_⟩)
local macro_rules | `(tactic| walk_at "gos") => `(tactic| repeat walk_at "go")
namespace At
open L2 PyProof.Rows PySem.Spec PySem
section
variable {base : Heap} {w : World} {K : PySem.W.Frag} {mg : Str → Option Value} {P : Program}
abbrev N_is_integer : List Str := ["value"]
theorem sc_is_integer : FnScope N_is_integer ["value"] (defScope s_is_integer) := ⟨rfl, rfl, rfl, by decide +kernel, rfl, by decide +kernel, by decide +kernel⟩
def sp_is_integer (K : PySem.W.Frag) : Sp := fun vs H Q _ => ∃ i : Int, vs = [.int i] ∧ Q (.bl true) H
theorem fn_is_integer (T : Top w K mg) {fd : FuncData} (F : Fun K "is_integer" "is_integer" s_is_integer (He.ga K "is_integer") fd) : FnOk P w K mg base CX0 1 (He.ga K "is_integer") fd ["value"] (sp_is_integer K) := by
  refine F.ok sc_is_integer (fun vs H Q E h => ?hlen) (fun cdv A outer s H vs Q E hr h => ⟨_, (pss_one (ps_ret (pe_and (pe_callB call_isi (by rfl) T.b_isinstance (by decide +kernel) (pa_cons (pv 0) (pa_cons (pe_bltn (v := .ty "int") (by rfl) T.b_int (by decide +kernel) rfl) pa_nil))) (pe_one (pe_not (pe_callB call_isi (by rfl) T.b_isinstance (by decide +kernel) (pa_cons (pv 0) (pa_cons (pe_bltn (v := .ty "bool") (by rfl) T.b_bool (by decide +kernel) rfl) pa_nil)))))))), ?hrd⟩)
  case hlen =>
    obtain ⟨i, rfl, _⟩ := h
    rfl
  case hrd =>
    obtain ⟨i, rfl, q⟩ := h
    walk_at "gos"
    refine go_isi (.int i) (kit_ii _) ?_
    walk_at "gos"
    refine go_isi (.int i) (kit_ib _) ?_
    walk_at "gos"
    exact q
theorem ok_is_integer (T : Top w K mg) : OkD P w K mg base 1 (He.ga K "is_integer") ["value"] (sp_is_integer K) := by
  obtain ⟨fd, F⟩ := T.f_is_integer
  exact ⟨fd, fn_is_integer T F, F.binds (ps := ["value"]) fun _ _ _ _ _ _ us hl => match us, hl with | [_], _ => rfl, F.kp⟩
end
end At

namespace At
open L2 PyProof.Rows PySem.Spec PySem
section
variable {base : Heap} {w : World} {K : PySem.W.Frag} {mg : Str → Option Value} {P : Program}
abbrev N_is_integer_within : List Str := ["value", "least", "most"]
theorem sc_is_integer_within : FnScope N_is_integer_within ["value", "least", "most"] (defScope s_is_integer_within) := ⟨rfl, rfl, rfl, by decide +kernel, rfl, by decide +kernel, by decide +kernel⟩
def sp_is_integer_within (K : PySem.W.Frag) : Sp := fun vs H Q _ => ∃ i l m : Int, vs = [.int i, .int l, .int m] ∧ l ≤ i ∧ i ≤ m ∧ Q (.bl true) H
theorem fn_is_integer_within (T : Top w K mg) {fd : FuncData} (F : Fun K "is_integer_within" "is_integer_within" s_is_integer_within (He.ga K "is_integer_within") fd) : FnOk P w K mg base CX0 2 (He.ga K "is_integer_within") fd ["value", "least", "most"] (sp_is_integer_within K) := by
  obtain ⟨fd_is_integer, G_is_integer, b_is_integer, k_is_integer⟩ := ok_is_integer (P := P) (w := w) (base := base) T
  refine F.ok sc_is_integer_within (fun vs H Q E h => ?hlen) (fun cdv A outer s H vs Q E hr h => ⟨_, (pss_one (ps_ret (pe_and (pe_call G_is_integer (hr.mono (by decide)) (by rfl) T.g_is_integer k_is_integer b_is_integer .nil pass0 (pa_cons (pv 0) pa_nil)) (pe_one (pe_chain op_le op_le (pv 1) (pv 0) (pv 2)))))), ?hrd⟩)
  case hlen =>
    obtain ⟨i, l, m, rfl, _⟩ := h
    rfl
  case hrd =>
    obtain ⟨i, l, m, rfl, h1, h2, q⟩ := h
    walk_at "gos"
    refine ⟨i, rfl, ?_⟩
    walk_at "gos"
    refine go_iteYes (decide_eq_true h1) ?_
    walk_at "gos"
    rw [decide_eq_true h2]
    exact q
theorem ok_is_integer_within (T : Top w K mg) : OkD P w K mg base 2 (He.ga K "is_integer_within") ["value", "least", "most"] (sp_is_integer_within K) := by
  obtain ⟨fd, F⟩ := T.f_is_integer_within
  exact ⟨fd, fn_is_integer_within T F, F.binds (ps := ["value", "least", "most"]) fun _ _ _ _ _ _ us hl => match us, hl with | [_, _, _], _ => rfl, F.kp⟩
end
end At

namespace At
open L2 PyProof.Rows PySem.Spec PySem
section
variable {base : Heap} {w : World} {K : PySem.W.Frag} {mg : Str → Option Value} {P : Program}
abbrev N_is_row : List Str := ["row", "index", "rows", "number", "place"]
theorem sc_is_row : FnScope N_is_row ["row", "index", "rows"] (defScope s_is_row) := ⟨rfl, rfl, rfl, by decide +kernel, rfl, by decide +kernel, by decide +kernel⟩
def sp_is_row (K : PySem.W.Frag) : Sp := fun vs H Q _ => ∃ r a n f, ∃ i : Nat, vs = [.ref r, .int i, .ref a] ∧ MatAt H a n f ∧ i < n ∧ n ≤ 1000 ∧ H r = some (.tup ((rowOf n f i).map .int)) ∧ (∀ i j, nat (f i j) ≤ WEB) ∧ (∀ i j, f i j = -f j i) ∧ ∀ H', Ext H H' → Q (.bl true) H'
theorem fn_is_row (T : Top w K mg) {fd : FuncData} (F : Fun K "is_row" "is_row" s_is_row (He.ga K "is_row") fd) : FnOk P w K mg base CX0 3 (He.ga K "is_row") fd ["row", "index", "rows"] (sp_is_row K) := by
  obtain ⟨fd_is_integer_within, G_is_integer_within, b_is_integer_within, k_is_integer_within⟩ := ok_is_integer_within (P := P) (w := w) (base := base) T
  obtain ⟨u_MOST_WEB, e_MOST_WEB, r_MOST_WEB⟩ := T.n_MOST_WEB
  refine F.ok sc_is_row (fun vs H Q E h => ?hlen) (fun cdv A outer s H vs Q E hr h => ⟨_, (pss_cons (ps_if (PW.pt (pw_or (pt_not (pt_val (pe_callB call_isi (by rfl) T.b_isinstance (by decide +kernel) (pa_cons (pv 0) (pa_cons (pe_bltn (v := .ty "tuple") (by rfl) T.b_tuple (by decide +kernel) rfl) pa_nil))))) (pw_or1 (pt_cmpR op_ne (pe_callB call_len_seq (by rfl) T.b_len PySem.boot_len (pa_cons (pv 0) pa_nil)) (pe_callB call_len_seq (by rfl) T.b_len PySem.boot_len (pa_cons (pv 2) pa_nil)) (nomark _))))) (pss_one (ps_ret pe_bl)) pss_nil)
    (pss_cons (ps_if (pt_not (pt_val (pe_callB (cr_all rfl) (by rfl) T.b_all (by decide +kernel) (pa_cons (pe_lc (own := [("number", 3)]) (g := gName 3) (tt := tYes) (by rfl) sc_is_row.nd (pi_tup (pv 0)) (blkOk_by (own := [("number", 3)]) (N := N_is_row) (sc := defScope s_is_row) (by decide +kernel)) (fun _ _ _ _ _ => pg_name (i := 3) sc_is_row.nd rfl (by first | exact Or.inl rfl | exact Or.inr rfl)) (fun _ _ _ _ _ => pts_nil) (fun _ _ _ _ _ => (pe_call G_is_integer_within (hr.mono (by decide)) (by rfl) T.g_is_integer_within k_is_integer_within b_is_integer_within .nil pass0 (pa_cons (pv 3) (pa_cons (pe_un un_neg (pe_glob rfl e_MOST_WEB r_MOST_WEB)) (pa_cons (pe_glob rfl e_MOST_WEB r_MOST_WEB) pa_nil)))))) pa_nil)))) (pss_one (ps_ret pe_bl)) pss_nil)
    (pss_one (ps_ret (pe_callB (cr_all rfl) (by rfl) T.b_all (by decide +kernel) (pa_cons (pe_lc (own := [("place", 4)]) (g := gName 4) (tt := tYes) (by rfl) sc_is_row.nd (pi_range1 (by rfl) T.b_range (pa_cons (pe_op op_add (pv 1) pe_int) pa_nil)) (blkOk_by (own := [("place", 4)]) (N := N_is_row) (sc := defScope s_is_row) (by decide +kernel)) (fun _ _ _ _ _ => pg_name (i := 4) sc_is_row.nd rfl (by first | exact Or.inl rfl | exact Or.inr rfl)) (fun _ _ _ _ _ => pts_nil) (fun _ _ _ _ _ => (pe_cmpR op_eq (pe_ix (ix_tup' (K := K)) (pv 0) (pv 4) (fun _ _ => rfl)) (pe_un un_neg (pe_ix (ix_tup' (K := K)) (pe_ix (ix_tup' (K := K)) (pv 2) (pv 4) (fun _ _ => rfl)) (pv 1) (fun _ _ => rfl))) (nomark _)))) pa_nil)))))), ?hrd⟩)
  case hlen =>
    obtain ⟨r, a, n, f, i, rfl, _⟩ := h
    rfl
  case hrd =>
    obtain ⟨r, a, n, f, i, rfl, hm, hi, hn, hr, hb, sk, q⟩ := h
    obtain ⟨xs, ha, hx⟩ : ∃ xs : List V, H a = some (.tup xs) ∧ xs.length = n := by
      obtain ⟨rs, h1, h2, _⟩ := hm
      exact ⟨_, h2, by rw [List.length_map]; exact h1⟩
    have lo : ∀ x : Int, nat x ≤ WEB → -(10 ^ 30) ≤ x ∧ x ≤ 10 ^ 30 := fun x h => by
      have h : nat x ≤ 10 ^ 30 := h
      unfold nat at h
      split at h <;> omega
    walk_at "gos"
    refine go_isi (.tup hr) (kit_tt _) ?_
    walk_at "gos"
    refine ⟨_, _, rfl, .inr (SqT.of hr), ?_⟩
    walk_at "gos"
    refine ⟨_, _, rfl, .inr (SqT.of ha), ?_⟩
    walk_at "gos"
    refine go_iteNo (by simp [rowOf, hx]) ?_
    walk_at "gos"
    refine go_lc ?_
    walk_at "gos"
    have hz : ((rowOf n f i).map V.int).length = n := by simp [rowOf]
    refine ⟨⟨_, SqT.of hr⟩, lc_tupP hr (by rw [hz]; omega) (fun _ => .bl true) (fun D nD x H' hx' e QE hq => ?_) fun D nD H' e hD => ?_⟩
    · obtain ⟨v, hv, rfl⟩ := List.mem_map.mp hx'
      obtain ⟨k, _, rfl⟩ := List.mem_map.mp hv
      walk_at "gos"
      refine ⟨rfl, ?_⟩
      walk_at "gos"
      exact ⟨_, _, _, rfl, (lo _ (hb i k)).1, (lo _ (hb i k)).2, hq _ (Evl.Ex.refl _)⟩
    have ha1 := e _ _ ha
    have hr1 := e _ _ hr
    walk_at "gos"
    refine ⟨D, (List.range n).map (fun _ => true), rfl, SqL.of (by rw [hD]; simp [rowOf]), ?_⟩
    rw [all_true]
    walk_at "gos"
    refine go_lc ?_
    walk_at "gos"
    refine And.intro (by omega) (And.intro (by omega) ?_)
    refine lc_rng (lo := 0) (n := i + 1) (by omega) (fun _ => .bl true) (fun D2 nD2 k H2 hk e2 QE hq => ?_) fun D2 nD2 H2 e2 hD2 => ?_
    · have hkn : k < n := by omega
      obtain ⟨xs2, rk, hak, hxk, hrk⟩ := hm.row hkn
      cases (Option.some.inj (ha.symm.trans hak))
      walk_at "gos"
      refine ⟨rfl, ?_⟩
      walk_at "gos"
      rw [Int.zero_add]
      refine go_rIxT (j := k) (SqT.of (e2 _ _ hr1)) (atI_nat (rowOf_at hkn)) ?_
      walk_at "gos"
      refine go_rIxT (j := k) (SqT.of (e2 _ _ ha1)) (atI_nat hxk) ?_
      walk_at "gos"
      refine go_rIxT (j := i) (SqT.of (e2 _ _ (e _ _ hrk))) (atI_nat (rowOf_at hi)) ?_
      walk_at "gos"
      rw [decide_eq_true (sk i k)]
      exact hq _ (Evl.Ex.refl _)
    walk_at "gos"
    refine ⟨D2, (List.range (i + 1)).map (fun _ => true), rfl, SqL.of (by rw [hD2, List.map_map]; rfl), ?_⟩
    rw [all_true]
    exact q _ (e.trans e2)
theorem ok_is_row (T : Top w K mg) : OkD P w K mg base 3 (He.ga K "is_row") ["row", "index", "rows"] (sp_is_row K) := by
  obtain ⟨fd, F⟩ := T.f_is_row
  exact ⟨fd, fn_is_row T F, F.binds (ps := ["row", "index", "rows"]) fun _ _ _ _ _ _ us hl => match us, hl with | [_, _, _], _ => rfl, F.kp⟩
end
end At

namespace At
open L2 PyProof.Rows PySem.Spec PySem
section
variable {base : Heap} {w : World} {K : PySem.W.Frag} {mg : Str → Option Value} {P : Program}
abbrev N_check_rows : List Str := ["rows", "index", "row"]
theorem sc_check_rows : FnScope N_check_rows ["rows"] (defScope s_check_rows) := ⟨rfl, rfl, rfl, by decide +kernel, rfl, by decide +kernel, by decide +kernel⟩
def sp_check_rows (K : PySem.W.Frag) : Sp := fun vs H Q _ => ∃ a n f, vs = [.ref a] ∧ MatAt H a n f ∧ 2 ≤ n ∧ n ≤ 5 ∧ (∀ i j, nat (f i j) ≤ WEB) ∧ (∀ i j, f i j = -f j i) ∧ ∀ H', Ext H H' → Q .non H'
theorem fn_check_rows (T : Top w K mg) {fd : FuncData} (F : Fun K "check_rows" "check_rows" s_check_rows (He.ga K "check_rows") fd) : FnOk P w K mg base CX0 4 (He.ga K "check_rows") fd ["rows"] (sp_check_rows K) := by
  obtain ⟨fd_is_row, G_is_row, b_is_row, k_is_row⟩ := ok_is_row (P := P) (w := w) (base := base) T
  obtain ⟨u_MOST_PLACES, e_MOST_PLACES, r_MOST_PLACES⟩ := T.n_MOST_PLACES
  refine F.ok sc_check_rows (fun vs H Q E h => ?hlen) (fun cdv A outer s H vs Q E hr h => ⟨_, (pss_cons (ps_if (PW.pt (pw_or (pt_not (pt_val (pe_callB call_isi (by rfl) T.b_isinstance (by decide +kernel) (pa_cons (pv 0) (pa_cons (pe_bltn (v := .ty "tuple") (by rfl) T.b_tuple (by decide +kernel) rfl) pa_nil))))) (pw_or1 (pt_cmpR op_lt (pe_callB call_len_seq (by rfl) T.b_len PySem.boot_len (pa_cons (pv 0) pa_nil)) pe_int (nomark _))))) (pss_one ps_never) pss_nil)
    (pss_one (ps_for PassesOwn.never rfl (pi_enumT (by rfl) T.b_enumerate (pa_cons (pv 0) pa_nil)) (pg_tup (by rfl) (pgs_cons (pg_name (i := 1) sc_check_rows.nd rfl (Or.inl rfl)) (pgs_cons (pg_name (i := 2) sc_check_rows.nd rfl (Or.inl rfl)) pgs_nil))) (pss_one (ps_if (PW.pt (pw_or (pt_cmpR op_ge (pv 1) (pe_glob rfl e_MOST_PLACES r_MOST_PLACES) (nomark _)) (pw_or1 (pt_not (pt_val (pe_call G_is_row (hr.mono (by decide)) (by rfl) T.g_is_row k_is_row b_is_row .nil pass0 (pa_cons (pv 2) (pa_cons (pv 1) (pa_cons (pv 0) pa_nil))))))))) (pss_one ps_never) pss_nil))))), ?hrd⟩)
  case hlen =>
    obtain ⟨a, n, f, rfl, _⟩ := h
    rfl
  case hrd =>
    obtain ⟨a, n, f, rfl, hm, h2, h5, hb, sk, q⟩ := h
    obtain ⟨rs, hl, ha, hr⟩ := hm
    walk_at "gos"
    refine go_isi (.tup ha) (kit_tt _) ?_
    walk_at "gos"
    refine ⟨_, _, rfl, .inr (SqT.of ha), ?_⟩
    walk_at "gos"
    refine go_iteNo (decide_eq_false (by rw [List.length_map]; omega)) ?_
    walk_at "gos"
    refine ⟨a, _, rfl, SqT.of ha, ?_⟩
    refine loop_enumT (fun i σ' H' => ∃ y z, σ' = [some (.ref a), y, z] ∧ Ext H H') ⟨none, none, rfl, Evl.Ex.refl _⟩ (fun i σ' H' _ ⟨y, z, _, e⟩ => SqT.of (e a _ ha)) ?_ ?_
    · rintro i x σ' H' T0 hx ⟨y, z, rfl, e⟩ nT
      rw [List.getElem?_map] at hx
      obtain ⟨r, hri, rfl⟩ := Option.map_eq_some_iff.mp hx
      have hi : i < n := by
        rw [← hl]
        exact (List.getElem?_eq_some_iff.mp hri).1
      walk_at "gos"
      refine go_gTup (SqT.of upd_same) rfl ?_
      walk_at "gos"
      refine go_iteNo (decide_eq_false (by omega)) ?_
      walk_at "gos"
      have e1 := ext_new (o := .tup [.int (i : Int), .ref r]) e nT
      refine ⟨r, a, n, f, i, rfl, (MatAt.ext ⟨rs, hl, ha, hr⟩ e1), hi, by omega, e1 _ _ (hr i r hri), hb, sk, fun H2 e2 => ?_⟩
      walk_at "gos"
      exact e1.trans e2
    · rintro σ' H' ⟨y, z, rfl, e⟩
      walk_at "gos"
      exact q H' e
theorem ok_check_rows (T : Top w K mg) : OkD P w K mg base 4 (He.ga K "check_rows") ["rows"] (sp_check_rows K) := by
  obtain ⟨fd, F⟩ := T.f_check_rows
  exact ⟨fd, fn_check_rows T F, F.binds (ps := ["rows"]) fun _ _ _ _ _ _ us hl => match us, hl with | [_], _ => rfl, F.kp⟩
end
end At

namespace At
open L2 PyProof.Rows PySem.Spec PySem
section
variable {base : Heap} {w : World} {K : PySem.W.Frag} {mg : Str → Option Value} {P : Program}
abbrev N_Web___init__ : List Str := ["self", "rows"]
theorem sc_Web___init__ : FnScope N_Web___init__ ["self", "rows"] (defScope s_Web___init__) := ⟨rfl, rfl, rfl, by decide +kernel, rfl, by decide +kernel, by decide +kernel⟩
def sp_Web___init__ (K : PySem.W.Frag) : Sp := fun vs H Q _ => ∃ s dx a n f H1, vs = [.ref s, .ref a] ∧ H s = some (.ins (He.ga K "Web") dx []) ∧ Ext H1 H ∧ H1 s = none ∧ MatAt H a n f ∧ 2 ≤ n ∧ n ≤ 5 ∧ (∀ i j, nat (f i j) ≤ WEB) ∧ (∀ i j, f i j = -f j i) ∧ ∀ H', Ext H1 H' → H' s = some (.ins (He.ga K "Web") dx [("_rows", .ref a)]) → Q .non H'
theorem fn_Web___init__ (T : Top w K mg) {fd : FuncData} (F : Fun K "__init__" "Web.__init__" s_Web___init__ (method K "Web" "__init__") fd) : FnOk P w K mg base CX0 5 (method K "Web" "__init__") fd ["self", "rows"] (sp_Web___init__ K) := by
  obtain ⟨fd_check_rows, G_check_rows, b_check_rows, k_check_rows⟩ := ok_check_rows (P := P) (w := w) (base := base) T
  refine F.ok sc_Web___init__ (fun vs H Q E h => ?hlen) (fun cdv A outer s H vs Q E hr h => ⟨_, (pss_cons (ps_expr (pe_call G_check_rows (hr.mono (by decide)) (by rfl) T.g_check_rows k_check_rows b_check_rows .nil pass0 (pa_cons (pv 1) pa_nil)))
    (pss_one (ps_fld (pv 0) (pv 1) rfl))), ?hrd⟩)
  case hlen =>
    obtain ⟨s, dx, a, n, f, H1, rfl, _⟩ := h
    rfl
  case hrd =>
    obtain ⟨s, dx, a, n, f, H1, rfl, hs, e1, n1, hm, h2, h5, hb, sk, q⟩ := h
    walk_at "gos"
    refine ⟨a, n, f, rfl, hm, h2, h5, hb, sk, fun H2 e2 => ?_⟩
    walk_at "gos"
    refine ⟨s, _, dx, _, rfl, e2 _ _ hs, T.c_Web, T.na_Web_rows, by decide, ?_⟩
    refine q _ ((e1.trans e2).mut n1) ?_
    rw [upd_same]
    rfl
theorem ok_Web___init__ (T : Top w K mg) : OkD P w K mg base 5 (method K "Web" "__init__") ["self", "rows"] (sp_Web___init__ K) := by
  obtain ⟨fd, F⟩ := T.f_Web___init__
  exact ⟨fd, fn_Web___init__ T F, F.binds (ps := ["self", "rows"]) fun _ _ _ _ _ _ us hl => match us, hl with | [_, _], _ => rfl, F.kp⟩
end
end At

namespace At
open L2 PyProof.Rows PySem.Spec PySem
section
variable {base : Heap} {w : World} {K : PySem.W.Frag} {mg : Str → Option Value} {P : Program}
abbrev N__law_roll : List Str := ["_law_purse_here", "_law_sides", "_law_figure", "_law_seed"]
theorem sc__law_roll : FnScope N__law_roll ["_law_purse_here", "_law_sides"] (defScope s__law_roll) := ⟨rfl, rfl, rfl, by decide +kernel, rfl, by decide +kernel, by decide +kernel⟩
def sp__law_roll (K : PySem.W.Frag) : Sp := fun vs H Q _ => ∃ c top, vs = [.ref c, .int top] ∧ Purse H c ∧ 0 < top ∧ top ≤ MID ∧ ∀ i H', 0 ≤ i → i < top → ExtC c H H' → Purse H' c → Q (.int i) H'
theorem fn__law_roll (T : Top w K mg) {fd : FuncData} (F : Fun K "_law_roll" "_law_roll" s__law_roll (He.ga K "_law_roll") fd) : FnOk P w K mg base CX0 1 (He.ga K "_law_roll") fd ["_law_purse_here", "_law_sides"] (sp__law_roll K) := by
  refine F.ok sc__law_roll (fun vs H Q E h => ?hlen) (fun cdv A outer s H vs Q E hr h => ⟨_, (pss_cons (ps_asg (pe_op op_add (pe_ix ix_list (pv 0) pe_int (fun _ _ => rfl)) pe_int) (pg_sub (pv 0) pe_int set_list))
    (pss_cons (ps_if (pt_cmpR op_gt (pe_ix ix_list (pv 0) pe_int (fun _ _ => rfl)) pe_int (nomark _)) (pss_cons (ps_asg (pe_callB call_divmodW (by rfl) T.b_divmod (by decide +kernel) (pa_cons (pe_ix ix_list (pv 0) pe_int (fun _ _ => rfl)) (pa_cons (pv 1) pa_nil))) (pg_tup (by rfl) (pgs_cons (pg_sub (pv 0) pe_int set_list) (pgs_cons (pg_name (i := 2) sc__law_roll.nd rfl (Or.inl rfl)) pgs_nil))))
    (pss_one (ps_ret (pv 2)))) pss_nil)
    (pss_cons (ps_set (i := 3) sc__law_roll.nd rfl (Or.inl rfl) (pe_callTy call_int1 (by rfl) T.b_int (by decide +kernel) (pa_cons (pe_ix ix_list (pv 0) pe_int (fun _ _ => rfl)) pa_nil)))
    (pss_cons (ps_asg (pe_op op_modN (pe_callTy call_int1 (by rfl) T.b_int (by decide +kernel) (pa_cons (pe_op op_add (pe_op op_mulW (pv 3) (pe_op op_add (pv 3) pe_int)) (pe_op op_mul pe_int (pe_ix ix_list (pv 0) pe_int (fun _ _ => rfl)))) pa_nil)) pe_int) (pg_sub (pv 0) pe_int set_list))
    (pss_one (ps_ret (pe_op op_modN (pe_callTy call_int1 (by rfl) T.b_int (by decide +kernel) (pa_cons (pe_op op_fdivN (pe_ix ix_list (pv 0) pe_int (fun _ _ => rfl)) pe_int) pa_nil)) (pv 1)))))))), ?hrd⟩)
  case hlen =>
    obtain ⟨c, top, rfl, _⟩ := h
    rfl
  case hrd =>
    obtain ⟨c, top, rfl, ⟨d, x, n, hc, hd, hx0, hx1⟩, ht0, ht1, q⟩ := h
    walk_at "gos"
    refine go_rIxL (j := 2) (v := .int n) (SqL.of hc) (by rfl) ?_
    walk_at "gos"
    refine go_rSetL hc (by rfl) ?_
    generalize n + 1 = n
    have hc1 : upd H c (.lst [.int d, .int x, .int n]) c = some (.lst [.int d, .int x, .int n]) := upd_same
    walk_at "gos"
    refine go_rIxL (j := 0) (v := .int d) (SqL.of hc1) (by rfl) ?_
    walk_at "gos"
    refine go_ite (fun hd0 => ?_) (fun hd0 => ?_)
    · walk_at "gos"
      refine go_rIxL (j := 0) (v := .int d) (SqL.of hc1) (by rfl) ?_
      walk_at "gos"
      refine ⟨cdivp ht0 ht1, fun p np => ?_⟩
      refine go_gTup (SqT.of upd_same) rfl ?_
      walk_at "gos"
      refine go_rSetL (mem_new np hc1) (by rfl) ?_
      walk_at "gos"
      refine q _ _ (Int.emod_nonneg _ (by omega)) (Int.emod_lt_of_pos _ ht0) ((ExtC.set.trans (ExtC.new np)).trans ExtC.set) ⟨d / top, x, n, upd_same, Int.ediv_nonneg hd (by omega), hx0, hx1⟩
    · walk_at "gos"
      refine go_rIxL (j := 1) (v := .int x) (SqL.of hc1) (by rfl) ?_
      walk_at "gos"
      refine .inl ⟨_, rfl, ?_⟩
      walk_at "gos"
      have hm : CMulW x (x + 50021) := mul_ok (B := MID) (by decide +kernel) (by unfold nat; rw [if_neg (by omega)]; exact Int.le_trans (show x ≤ 2147483543 by omega) (by decide +kernel)) (by unfold nat; rw [if_neg (by omega)]; exact Int.le_trans (show x + 50021 ≤ 2147533564 by omega) (by decide +kernel))
      refine go_rI hm ?_
      walk_at "gos"
      refine go_rIxL (j := 2) (v := .int n) (SqL.of hc1) (by rfl) ?_
      walk_at "gos"
      refine .inl ⟨_, rfl, ?_⟩
      walk_at "gos"
      refine go_rSetL hc1 (by rfl) ?_
      obtain ⟨y0, y1⟩ := mixedP (x * (x + 50021) + 91229 * n)
      generalize (x * (x + 50021) + 91229 * n).fmod 2147483543 = y at y0 y1 ⊢
      rw [upd_upd]
      have hc2 : upd H c (.lst [.int d, .int y, .int n]) c = some (.lst [.int d, .int y, .int n]) := upd_same
      show tRet _ _ _ (upd H c (.lst [.int d, .int y, .int n]))
      walk_at "gos"
      refine go_rIxL (j := 1) (v := .int y) (SqL.of hc2) (by rfl) ?_
      walk_at "gos"
      refine .inl ⟨_, rfl, ?_⟩
      walk_at "gos"
      exact q _ _ (modI ht0).1 (modI ht0).2 ExtC.set ⟨d, y, n, upd_same, hd, y0, y1⟩
theorem ok__law_roll (T : Top w K mg) : OkD P w K mg base 1 (He.ga K "_law_roll") ["_law_purse_here", "_law_sides"] (sp__law_roll K) := by
  obtain ⟨fd, F⟩ := T.f__law_roll
  exact ⟨fd, fn__law_roll T F, F.binds (ps := ["_law_purse_here", "_law_sides"]) fun _ _ _ _ _ _ us hl => match us, hl with | [_, _], _ => rfl, F.kp⟩
end
end At

namespace At
open L2 PyProof.Rows PySem.Spec PySem
section
variable {base : Heap} {w : World} {K : PySem.W.Frag} {mg : Str → Option Value} {P : Program}
abbrev N__law_multiplied : List Str := ["_law_purse_here", "_law_rows_here", "_law_spot", "_law_by", "_law_found", "_law_k", "_law_j"]
theorem sc__law_multiplied : FnScope N__law_multiplied ["_law_purse_here", "_law_rows_here"] (defScope s__law_multiplied) := ⟨rfl, rfl, rfl, by decide +kernel, rfl, by decide +kernel, by decide +kernel⟩
def sp__law_multiplied (K : PySem.W.Frag) : Sp := fun vs H Q _ => ∃ c a f, ∃ n : Nat, vs = [.ref c, .ref a] ∧ Purse H c ∧ MatAt H a n f ∧ 2 ≤ n ∧ n ≤ 5 ∧ (∀ i j, nat (f i j) ≤ 12) ∧ (∀ i j, f i j = -f j i) ∧ ∀ r g H', ExtC c H H' → Purse H' c → MatAt H' r n g → (∀ i j, nat (g i j) ≤ 72) → (∀ i j, g i j = -g j i) → Q (.ref r) H'
theorem fn__law_multiplied (T : Top w K mg) {fd : FuncData} (F : Fun K "_law_multiplied" "_law_multiplied" s__law_multiplied (He.ga K "_law_multiplied") fd) : FnOk P w K mg base CX0 2 (He.ga K "_law_multiplied") fd ["_law_purse_here", "_law_rows_here"] (sp__law_multiplied K) := by
  obtain ⟨fd__law_roll, G__law_roll, b__law_roll, k__law_roll⟩ := ok__law_roll (P := P) (w := w) (base := base) T
  refine F.ok sc__law_multiplied (fun vs H Q E h => ?hlen) (fun cdv A outer s H vs Q E hr h => ⟨_, (pss_cons (ps_asg (pe_tup (pa_cons (pe_call G__law_roll (hr.mono (by decide)) (by rfl) T.g__law_roll k__law_roll b__law_roll .nil pass0 (pa_cons (pv 0) (pa_cons (pe_callB call_len_seq (by rfl) T.b_len PySem.boot_len (pa_cons (pv 1) pa_nil)) pa_nil))) (pa_cons (pe_op op_add pe_int (pe_call G__law_roll (hr.mono (by decide)) (by rfl) T.g__law_roll k__law_roll b__law_roll .nil pass0 (pa_cons (pv 0) (pa_cons pe_int pa_nil)))) pa_nil))) (pg_tup (by rfl) (pgs_cons (pg_name (i := 2) sc__law_multiplied.nd rfl (Or.inr rfl)) (pgs_cons (pg_name (i := 3) sc__law_multiplied.nd rfl (Or.inr rfl)) pgs_nil))))
    (pss_cons (ps_set (i := 4) sc__law_multiplied.nd rfl (Or.inl rfl) (pe_lst pa_nil))
    (pss_cons (ps_for PassesOwn.never rfl (pi_range1 (by rfl) T.b_range (pa_cons (pe_callB call_len_seq (by rfl) T.b_len PySem.boot_len (pa_cons (pv 1) pa_nil)) pa_nil)) (pg_name (i := 5) sc__law_multiplied.nd rfl (Or.inr rfl)) (pss_one (ps_expr (pe_bm PySem.F.plainAttrs_list PySem.F.slot_list_append PySem.F.type_list_append mt_append (pv 4) (pa_cons (pe_callTy call_tuple_of (by rfl) T.b_tuple (by decide +kernel) (pa_cons (pe_lc (own := [("_law_j", 6)]) (g := gName 6) (tt := tYes) (by rfl) sc__law_multiplied.nd (pi_range1 (by rfl) T.b_range (pa_cons (pe_callB call_len_seq (by rfl) T.b_len PySem.boot_len (pa_cons (pv 1) pa_nil)) pa_nil)) (blkOk_by (own := [("_law_j", 6)]) (N := N__law_multiplied) (sc := defScope s__law_multiplied) (by decide +kernel)) (fun _ _ _ _ _ => pg_name (i := 6) sc__law_multiplied.nd rfl (by first | exact Or.inl rfl | exact Or.inr rfl)) (fun _ _ _ _ _ => pts_nil) (fun _ _ _ _ _ => (pe_ifExp (pt_cmpR (At.op_in_seqK (K := K) rfl) (pv 2) (pe_lst (pa_cons (pv 5) (pa_cons (pv 6) pa_nil))) (by with_unfolding_all rfl)) (pe_op op_mulW (pe_ix (ix_tup' (K := K)) (pe_ix (ix_tup' (K := K)) (pv 1) (pv 5) (fun _ _ => rfl)) (pv 6) (fun _ _ => rfl)) (pv 3)) (pe_ix (ix_tup' (K := K)) (pe_ix (ix_tup' (K := K)) (pv 1) (pv 5) (fun _ _ => rfl)) (pv 6) (fun _ _ => rfl))))) pa_nil)) pa_nil)))))
    (pss_one (ps_ret (pe_callTy call_tuple_of (by rfl) T.b_tuple (by decide +kernel) (pa_cons (pv 4) pa_nil))))))), ?hrd⟩)
  case hlen =>
    obtain ⟨c, a, f, n, rfl, _⟩ := h
    rfl
  case hrd =>
    obtain ⟨c, a, f, n, rfl, hc, hm, n2, n5, fb, sk, q⟩ := h
    obtain ⟨rs, hl, ha, hr⟩ := hm
    have al : (rs.map V.ref).length = n := by rw [List.length_map, hl]
    walk_at "gos"
    refine ⟨_, _, rfl, .inr (SqT.of ha), ?_⟩
    refine ⟨c, _, rfl, hc, by omega, by rw [al]; exact Int.le_trans (show (n : Int) ≤ 5 by omega) (by decide +kernel), fun sp H1 a0 a1 e1 hc1 => ?_⟩
    walk_at "gos"
    refine ⟨c, _, rfl, hc1, by omega, by decide +kernel, fun by_ H2 b0 b1 e2 hc2 => ?_⟩
    walk_at "gos"
    intro T0 nT0
    refine go_gTup (SqT.of upd_same) rfl ?_
    walk_at "gos"
    intro D nD
    have ex : Ext H2 (upd (upd H2 T0 (.tup [.int sp, .int (1 + by_)])) D (.lst [])) := ext_new (Evl.Ex.new nT0) nD
    have eA : ExtC c H (upd (upd H2 T0 (.tup [.int sp, .int (1 + by_)])) D (.lst [])) := (e1.trans e2).trans (ExtC.of ex)
    have hcA := hc2.ext ex
    have dc : D ≠ c := ne_purse (hc2.new nT0) nD
    have hD0 : H2 D = none := (none_back nD).1
    obtain ⟨HA, eqA⟩ : ∃ HA, upd (upd H2 T0 (.tup [.int sp, .int (1 + by_)])) D (.lst []) = HA := ⟨_, rfl⟩
    have hDA : HA D = some (.lst []) := by rw [← eqA]; exact upd_same
    rw [eqA] at ex eA hcA ⊢
    obtain ⟨s, rfl⟩ : ∃ s : Nat, sp = (s : Int) := ⟨sp.toNat, by omega⟩
    have hmA : MatAt HA a n f := MatAt.extC ⟨rs, hl, ha, hr⟩ hc eA
    obtain ⟨rs', hl', ha', hr'⟩ := id hmA
    have hm2 : MatAt H2 a n f := MatAt.extC ⟨rs, hl, ha, hr⟩ hc (e1.trans e2)
    obtain ⟨g, hg⟩ : ∃ g : Nat → Nat → Int, (fun i j => if s = i ∨ s = j then f i j * (1 + by_) else f i j) = g := ⟨_, rfl⟩
    have gb : ∀ i j, nat (g i j) ≤ 72 := fun i j => by
      have := fb i j
      rw [← hg]
      dsimp only
      split
      · rw [nat_mul]
        have h2 : nat (1 + by_) = 1 + by_ := by unfold nat; rw [if_neg (by omega)]
        rw [h2]
        have := Int.mul_le_mul (show nat (f i j) ≤ 12 from this) (show 1 + by_ ≤ 6 by omega) (by omega) (by decide)
        omega
      · omega
    have gs : ∀ i j, g i j = -g j i := fun i j => by
      rw [← hg]
      dsimp only
      by_cases c1 : s = i ∨ s = j
      · rw [if_pos c1, if_pos (by omega), sk i j, Int.neg_mul]
      · rw [if_neg c1, if_neg (by omega), sk i j]
    walk_at "gos"
    refine ⟨_, _, rfl, .inr (SqT.of ha'), ?_⟩
    walk_at "gos"
    rw [List.length_map, hl']
    refine And.intro (by omega) (And.intro (by omega) ?_)
    refine loop_range (fun i σ' H3 => ∃ y5 y6, ∃ rs2 : List Addr, σ' = [some (.ref c), some (.ref a), some (.int s), some (.int (1 + by_)), some (.ref D), y5, y6] ∧ rs2.length = i ∧ Ext H2 H3 ∧ H3 D = some (.lst (rs2.map .ref)) ∧ (∀ k r, rs2[k]? = some r → H3 r = some (.tup ((rowOf n g k).map .int)))) ⟨_, _, [], rfl, rfl, ex, hDA, fun k r z => by cases z⟩ ?_ ?_
    · rintro i σ' H3 hi ⟨y5, y6, rs2, rfl, hml, e3, hD3, each⟩
      simp only [Int.zero_add]
      have iN : i < n := by omega
      obtain ⟨xs, r, ha3, hxi, hri⟩ := (hm2.ext e3).row iN
      obtain ⟨rs3, hl3, ha3', _⟩ := hm2.ext e3
      cases Option.some.inj (ha3.symm.trans ha3')
      walk_at "gos"
      refine go_app rfl hD3 ?_
      walk_at "gos"
      refine go_lc ?_
      walk_at "gos"
      refine ⟨_, _, rfl, .inr (SqT.of ha3), ?_⟩
      walk_at "gos"
      rw [List.length_map, hl3]
      refine And.intro (by omega) (And.intro (by omega) ?_)
      refine lc_rng (lo := 0) (n := n) (by omega) (fun j => .int (g i j)) (fun D2 nD2 j H4 hj e4 QE hq => ?_) fun D2 nD2 H4 e4 hD4 => ?_
      · walk_at "gos"
        refine ⟨rfl, ?_⟩
        walk_at "gos"
        rw [Int.zero_add]
        intro l nl
        refine ⟨l, _, rfl, .inl (SqL.of upd_same), rfl, rfl, ?_⟩
        rw [if_neg Bool.false_ne_true, inV_two]
        refine ⟨_, rfl, ?_⟩
        have e5 := ext_new (o := .lst [.int (i : Int), .int (j : Int)]) e4 nl
        have e5' : Ext H4 (upd H4 l (.lst [.int (i : Int), .int (j : Int)])) := Evl.Ex.new nl
        have bj := fb i j
        have told := hq _ e5'
        rw [← hg] at told
        refine go_ite (fun c => ?_) (fun c => ?_)
        · dsimp only at told
          rw [if_pos (show s = i ∨ s = j by omega)] at told
          walk_at "gos"
          refine go_rIxT (j := i) (SqT.of (e5 _ _ ha3)) (atI_nat hxi) ?_
          walk_at "gos"
          refine go_rIxT (j := j) (SqT.of (e5 _ _ hri)) (atI_nat (rowOf_at hj)) ?_
          walk_at "gos"
          refine go_rI (mul_ok (B := MID) (by decide +kernel) (Int.le_trans bj (by decide +kernel)) (Int.le_trans (nat_lt (B := 6) (by omega) (by omega)) (by decide +kernel))) ?_
          exact told
        · dsimp only at told
          rw [if_neg (show ¬ (s = i ∨ s = j) by omega)] at told
          walk_at "gos"
          refine go_rIxT (j := i) (SqT.of (e5 _ _ ha3)) (atI_nat hxi) ?_
          walk_at "gos"
          refine go_rIxT (j := j) (SqT.of (e5 _ _ hri)) (atI_nat (rowOf_at hj)) ?_
          exact told
      · walk_at "gos"
        refine ⟨D2, _, rfl, .inl ⟨SqL.of hD4, fun t nt => ?_⟩⟩
        have rg : (List.range n).map (fun j => V.int (g i j)) = (rowOf n g i).map .int := by
          unfold rowOf
          rw [List.map_map]
          rfl
        rw [rg]
        have all4 : ∀ (k : Nat) (r : Addr), (rs2 ++ [t])[k]? = some r → upd H4 t (.tup ((rowOf n g i).map .int)) r = some (.tup ((rowOf n g k).map .int)) := fun k r hk => by
          rcases Nat.lt_trichotomy k rs2.length with c | c | c
          · rw [List.getElem?_append_left c] at hk
            exact mem_new nt (e4 _ _ (each k r hk))
          · subst c
            rw [List.getElem?_append_right (Nat.le_refl _), Nat.sub_self] at hk
            cases Option.some.inj hk
            rw [upd_same, hml]
          · rw [List.getElem?_eq_none (by rw [List.length_append]; exact c)] at hk
            cases hk
        have hD5 := mem_new (u := .tup ((rowOf n g i).map .int)) nt (e4 _ _ hD3)
        refine appk hD5 (by rw [List.length_map]; omega) ?_
        refine ⟨_, _, rs2 ++ [t], rfl, by rw [List.length_append, hml]; rfl, ?_, by rw [upd_same, List.map_append]; rfl, fun k r hk => ?_⟩
        · exact (e3.trans (ext_new e4 nt)).mut hD0
        · rw [upd_ne (fun z => by have h1 := all4 k r hk; rw [z, hD5] at h1; cases h1)]
          exact all4 k r hk
    · rintro σ' H3 ⟨y5, y6, rs2, rfl, hml, e3, hD3, each⟩
      have hml : rs2.length = n := by omega
      walk_at "gos"
      refine ⟨D, _, rfl, .inl ⟨SqL.of hD3, fun t nt => q t g _ ((e1.trans e2).trans (ExtC.of (ext_new e3 nt))) (hc2.ext (ext_new e3 nt)) ⟨rs2, hml, upd_same, fun k r z => mem_new nt (each k r z)⟩ gb gs⟩⟩
theorem ok__law_multiplied (T : Top w K mg) : OkD P w K mg base 2 (He.ga K "_law_multiplied") ["_law_purse_here", "_law_rows_here"] (sp__law_multiplied K) := by
  obtain ⟨fd, F⟩ := T.f__law_multiplied
  exact ⟨fd, fn__law_multiplied T F, F.binds (ps := ["_law_purse_here", "_law_rows_here"]) fun _ _ _ _ _ _ us hl => match us, hl with | [_, _], _ => rfl, F.kp⟩
end
end At

namespace At
open L2 PyProof.Rows PySem.Spec PySem
section
variable {base : Heap} {w : World} {K : PySem.W.Frag} {mg : Str → Option Value} {P : Program}
abbrev N_kept_of : List Str := ["row", "kept", "number"]
theorem sc_kept_of : FnScope N_kept_of ["row"] (defScope s_kept_of) := ⟨rfl, rfl, rfl, by decide +kernel, rfl, by decide +kernel, by decide +kernel⟩
def sp_kept_of (K : PySem.W.Frag) : Sp := fun vs H Q _ => ∃ (a : Addr) (xs : List Int), vs = [.ref a] ∧ H a = some (.tup (xs.map .int)) ∧ Q (.int (gcdL xs)) H
theorem fn_kept_of (T : Top w K mg) {fd : FuncData} (F : Fun K "kept_of" "kept_of" s_kept_of (He.ga K "kept_of") fd) : FnOk P w K mg base CX0 1 (He.ga K "kept_of") fd ["row"] (sp_kept_of K) := by
  refine F.ok sc_kept_of (fun vs H Q E h => ?hlen) (fun cdv A outer s H vs Q E hr h => ⟨_, (pss_cons (ps_set (i := 1) sc_kept_of.nd rfl (Or.inl rfl) pe_int)
    (pss_cons (ps_for PassesOwn.never rfl (pi_tup (pv 0)) (pg_name (i := 2) sc_kept_of.nd rfl (Or.inl rfl)) (pss_one (ps_set (i := 1) sc_kept_of.nd rfl (Or.inl rfl) (pe_callI cr_gcd (by rfl) T.gcd_ (pa_cons (pv 1) (pa_cons (pv 2) pa_nil))))))
    (pss_one (ps_ret (pv 1))))), ?hrd⟩)
  case hlen =>
    obtain ⟨a, xs, rfl, _⟩ := h
    rfl
  case hrd =>
    obtain ⟨a, xs, rfl, ha, q⟩ := h
    walk_at "gos"
    refine ⟨⟨_, SqT.of ha⟩, ?_⟩
    refine loop_tup (xs := xs.map V.int) (fun (i : Nat) (σ' : L2.St) (H' : Hp) => ∃ (y : Option V), H' = H ∧ σ' = [some (.ref a), some (.int (gcdL (xs.take i))), y]) ⟨_, rfl, rfl⟩ (fun i σ' H' _ pv => by
      obtain ⟨_, rfl, _⟩ := pv
      exact SqT.of ha) (fun i x σ' H' hx pv => ?_) ?_
    · obtain ⟨y, rfl, rfl⟩ := pv
      rw [List.getElem?_map] at hx
      obtain ⟨v, hv, rfl⟩ := Option.map_eq_some_iff.mp hx
      walk_at "gos"
      refine ⟨_, _, rfl, ?_⟩
      exact ⟨_, rfl, by rw [gcdL_take hv]; rfl⟩
    rintro σ' H' ⟨y, rfl, rfl⟩
    walk_at "gos"
    (rw [List.length_map, List.take_length])
    exact q
theorem ok_kept_of (T : Top w K mg) : OkD P w K mg base 1 (He.ga K "kept_of") ["row"] (sp_kept_of K) := by
  obtain ⟨fd, F⟩ := T.f_kept_of
  exact ⟨fd, fn_kept_of T F, F.binds (ps := ["row"]) fun _ _ _ _ _ _ us hl => match us, hl with | [_], _ => rfl, F.kp⟩
end
end At

namespace At
open L2 PyProof.Rows PySem.Spec PySem
section
variable {base : Heap} {w : World} {K : PySem.W.Frag} {mg : Str → Option Value} {P : Program}
abbrev N_Web_kept : List Str := ["self", "row"]
theorem sc_Web_kept : FnScope N_Web_kept ["self"] (defScope s_Web_kept) := ⟨rfl, rfl, rfl, by decide +kernel, rfl, by decide +kernel, by decide +kernel⟩
def sp_Web_kept (K : PySem.W.Frag) : Sp := fun vs H Q _ => ∃ s dx a n f, vs = [.ref s] ∧ H s = some (.ins (He.ga K "Web") dx [("_rows", .ref a)]) ∧ MatAt H a n f ∧ n ≤ 1000 ∧ ∀ r H', H r = none → Ext H H' → H' r = some (.tup ((List.range n).map fun i => .int (gcdL (rowOf n f i)))) → Q (.ref r) H'
theorem fn_Web_kept (T : Top w K mg) {fd : FuncData} (F : Fun K "kept" "Web.kept" s_Web_kept (getter K "Web" "kept") fd) : FnOk P w K mg base CX0 2 (getter K "Web" "kept") fd ["self"] (sp_Web_kept K) := by
  obtain ⟨fd_kept_of, G_kept_of, b_kept_of, k_kept_of⟩ := ok_kept_of (P := P) (w := w) (base := base) T
  refine F.ok sc_Web_kept (fun vs H Q E h => ?hlen) (fun cdv A outer s H vs Q E hr h => ⟨_, (pss_one (ps_ret (pe_callTy call_tuple_of (by rfl) T.b_tuple (by decide +kernel) (pa_cons (pe_lc (own := [("row", 1)]) (g := gName 1) (tt := tYes) (by rfl) sc_Web_kept.nd (pi_tup (pe_fld (pv 0) rfl)) (blkOk_by (own := [("row", 1)]) (N := N_Web_kept) (sc := defScope s_Web_kept) (by decide +kernel)) (fun _ _ _ _ _ => pg_name (i := 1) sc_Web_kept.nd rfl (by first | exact Or.inl rfl | exact Or.inr rfl)) (fun _ _ _ _ _ => pts_nil) (fun _ _ _ _ _ => (pe_call G_kept_of (hr.mono (by decide)) (by rfl) T.g_kept_of k_kept_of b_kept_of .nil pass0 (pa_cons (pv 1) pa_nil)))) pa_nil)))), ?hrd⟩)
  case hlen =>
    obtain ⟨s, dx, a, n, f, rfl, _⟩ := h
    rfl
  case hrd =>
    obtain ⟨s, dx, a, n, f, rfl, hs, hm, hn, q⟩ := h
    obtain ⟨rs, h1, h2, h3⟩ := hm
    walk_at "gos"
    refine go_lc ?_
    walk_at "gos"
    refine ⟨s, _, dx, _, _, rfl, hs, T.c_Web, T.na_Web_rows, rfl, a, rfl, ⟨_, SqT.of h2⟩, ?_⟩
    refine lc_all (walk_tup (xs := rs.map V.ref)) ((List.range n).map fun i => V.int (gcdL (rowOf n f i))) (by rw [List.length_map, List.length_map, List.length_range, h1]) (by rw [List.length_map, h1]; omega) (fun _ e => SqT.of (e _ _ h2)) (fun d nd i x y H2 H' QE hy e2 y1 hq2 => ?_) mono_name fun d nd H2 e2 hd => ?_
    · obtain ⟨rfl, hx⟩ := y1
      rw [List.getElem?_map] at hx
      obtain ⟨r, hr, rfl⟩ := Option.map_eq_some_iff.mp hx
      have hlt : i < n := by
        rw [← h1]
        exact (List.getElem?_eq_some_iff.mp hr).1
      rw [List.getElem?_map, List.getElem?_range hlt] at hy
      cases Option.some.inj hy
      walk_at "gos"
      refine ⟨rfl, ?_⟩
      walk_at "gos"
      exact ⟨r, rowOf n f i, rfl, e2 _ _ (h3 i r hr), hq2 _ (Evl.Ex.refl _)⟩
    · walk_at "gos"
      refine ⟨d, _, rfl, .inl ⟨SqL.of hd, fun l nl => q l _ (Evl.fresh_back e2 nl) (ext_new e2 nl) upd_same⟩⟩
theorem ok_Web_kept (T : Top w K mg) : OkD P w K mg base 2 (getter K "Web" "kept") ["self"] (sp_Web_kept K) := by
  obtain ⟨fd, F⟩ := T.f_Web_kept
  exact ⟨fd, fn_Web_kept T F, F.binds (ps := ["self"]) fun _ _ _ _ _ _ us hl => match us, hl with | [_], _ => rfl, F.kp⟩
end
end At

namespace At
open L2 PyProof.Rows PySem.Spec PySem
section
variable {base : Heap} {w : World} {K : PySem.W.Frag} {mg : Str → Option Value} {P : Program}
abbrev N__law_pick : List Str := ["_law_purse_here", "_law_some"]
theorem sc__law_pick : FnScope N__law_pick ["_law_purse_here", "_law_some"] (defScope s__law_pick) := ⟨rfl, rfl, rfl, by decide +kernel, rfl, by decide +kernel, by decide +kernel⟩
def sp__law_pick (K : PySem.W.Frag) : Sp := fun vs H Q _ => ∃ c l xs, vs = [.ref c, .ref l] ∧ Purse H c ∧ H l = some (.lst xs) ∧ l ≠ c ∧ 0 < xs.length ∧ xs.length ≤ 60000 ∧ ∀ x H', x ∈ xs → ExtC c H H' → Purse H' c → Q x H'
theorem fn__law_pick (T : Top w K mg) {fd : FuncData} (F : Fun K "_law_pick" "_law_pick" s__law_pick (He.ga K "_law_pick") fd) : FnOk P w K mg base CX0 2 (He.ga K "_law_pick") fd ["_law_purse_here", "_law_some"] (sp__law_pick K) := by
  obtain ⟨fd__law_roll, G__law_roll, b__law_roll, k__law_roll⟩ := ok__law_roll (P := P) (w := w) (base := base) T
  refine F.ok sc__law_pick (fun vs H Q E h => ?hlen) (fun cdv A outer s H vs Q E hr h => ⟨_, (pss_one (ps_ret (pe_ix ix_list (pv 1) (pe_call G__law_roll (hr.mono (by decide)) (by rfl) T.g__law_roll k__law_roll b__law_roll .nil pass0 (pa_cons (pv 0) (pa_cons (pe_callB call_len_seq (by rfl) T.b_len PySem.boot_len (pa_cons (pv 1) pa_nil)) pa_nil))) (fun _ _ => rfl)))), ?hrd⟩)
  case hlen =>
    obtain ⟨c, l, xs, rfl, _⟩ := h
    rfl
  case hrd =>
    obtain ⟨c, l, xs, rfl, hc, hl, hlc, h0, h1, q⟩ := h
    walk_at "gos"
    refine ⟨_, _, rfl, .inl (SqL.of hl), ?_⟩
    walk_at "gos"
    refine ⟨c, _, rfl, hc, by omega, Int.le_trans (show (xs.length : Int) ≤ 60000 by omega) (by decide +kernel), fun i H' i0 i1 e hc' => ?_⟩
    obtain ⟨n, rfl⟩ : ∃ n : Nat, i = (n : Int) := ⟨i.toNat, by omega⟩
    have hn : n < xs.length := by omega
    refine go_rIxL (v := xs[n]) (SqL.of (e _ _ hlc hl)) (atI_nat (j := n) (List.getElem?_eq_getElem hn)) ?_
    exact q _ H' (List.getElem_mem hn) e hc'
theorem ok__law_pick (T : Top w K mg) : OkD P w K mg base 2 (He.ga K "_law_pick") ["_law_purse_here", "_law_some"] (sp__law_pick K) := by
  obtain ⟨fd, F⟩ := T.f__law_pick
  exact ⟨fd, fn__law_pick T F, F.binds (ps := ["_law_purse_here", "_law_some"]) fun _ _ _ _ _ _ us hl => match us, hl with | [_, _], _ => rfl, F.kp⟩
end
end At

namespace At
open L2 PyProof.Rows PySem.Spec PySem
section
variable {base : Heap} {w : World} {K : PySem.W.Frag} {mg : Str → Option Value} {P : Program}
abbrev N__law_rows : List Str := ["_law_purse_here", "_law_many", "_law_top", "_law_rows_here", "_law_k", "_law_j", "_law_part", "_law_row"]
theorem sc__law_rows : FnScope N__law_rows ["_law_purse_here", "_law_many", "_law_top"] (defScope s__law_rows) := ⟨rfl, rfl, rfl, by decide +kernel, rfl, by decide +kernel, by decide +kernel⟩
def sp__law_rows (K : PySem.W.Frag) : Sp := fun vs H Q _ => ∃ c top, ∃ n : Nat, vs = [.ref c, .int n, .int top] ∧ Purse H c ∧ 2 ≤ n ∧ n ≤ 5 ∧ 2 ≤ top ∧ top ≤ WEB ∧ ∀ r f H', ExtC c H H' → Purse H' c → MatAt H' r n f → (∀ i j, nat (f i j) ≤ top) → (∀ i j, f i j = -f j i) → Q (.ref r) H'
theorem fn__law_rows (T : Top w K mg) {fd : FuncData} (F : Fun K "_law_rows" "_law_rows" s__law_rows (He.ga K "_law_rows") fd) : FnOk P w K mg base CX0 3 (He.ga K "_law_rows") fd ["_law_purse_here", "_law_many", "_law_top"] (sp__law_rows K) := by
  obtain ⟨fd__law_pick, G__law_pick, b__law_pick, k__law_pick⟩ := ok__law_pick (P := P) (w := w) (base := base) T
  obtain ⟨fd__law_roll, G__law_roll, b__law_roll, k__law_roll⟩ := ok__law_roll (P := P) (w := w) (base := base) T
  refine F.ok sc__law_rows (fun vs H Q E h => ?hlen) (fun cdv A outer s H vs Q E hr h => ⟨_, (pss_cons (ps_setLc (i := 3) (own := [("_law_k", 4)]) (g := gName 4) (tt := tYes) (by rfl) sc__law_rows.nd rfl rfl (sw_true rfl rfl rfl (by decide +kernel)) (pi_range1 (by rfl) T.b_range (pa_cons (pv 1) pa_nil)) (blkOk_by (own := [("_law_k", 4)]) (N := N__law_rows) (sc := defScope s__law_rows) (by decide +kernel)) (fun _ _ _ _ _ => pg_name (i := 4) sc__law_rows.nd rfl (by first | exact Or.inl rfl | exact Or.inr rfl)) (fun _ _ _ _ _ => pts_nil) (fun _ _ _ _ _ => (pe_op op_rep (pe_lst (pa_cons pe_int pa_nil)) (pv 1))))
    (pss_cons (ps_for PassesOwn.never rfl (pi_range1 (by rfl) T.b_range (pa_cons (pv 1) pa_nil)) (pg_name (i := 4) sc__law_rows.nd rfl (Or.inl rfl)) (pss_one (ps_for PassesOwn.never rfl (pi_range1 (by rfl) T.b_range (pa_cons (pv 4) pa_nil)) (pg_name (i := 5) sc__law_rows.nd rfl (Or.inl rfl)) (pss_cons (ps_set (i := 6) sc__law_rows.nd rfl (Or.inl rfl) (pe_call G__law_pick (hr.mono (by decide)) (by rfl) T.g__law_pick k__law_pick b__law_pick .nil pass0 (pa_cons (pv 0) (pa_cons (pe_lst (pa_cons pe_int (pa_cons pe_int (pa_cons (pe_un un_neg pe_int) (pa_cons (pe_op op_sub (pe_call G__law_roll (hr.mono (by decide)) (by rfl) T.g__law_roll k__law_roll b__law_roll .nil pass0 (pa_cons (pv 0) (pa_cons (pe_op op_add (pe_op op_mul pe_int (pv 2)) pe_int) pa_nil))) (pv 2)) (pa_cons (pe_op op_sub (pe_call G__law_roll (hr.mono (by decide)) (by rfl) T.g__law_roll k__law_roll b__law_roll .nil pass0 (pa_cons (pv 0) (pa_cons pe_int pa_nil))) pe_int) pa_nil)))))) pa_nil))))
    (pss_one (ps_asg (pe_tup (pa_cons (pv 6) (pa_cons (pe_un un_neg (pv 6)) pa_nil))) (pg_tup (by rfl) (pgs_cons (pg_sub (pe_ix ix_list (pv 3) (pv 4) (fun _ _ => rfl)) (pv 5) set_list) (pgs_cons (pg_sub (pe_ix ix_list (pv 3) (pv 5) (fun _ _ => rfl)) (pv 4) set_list) pgs_nil)))))))))
    (pss_one (ps_ret (pe_callTy call_tuple_of (by rfl) T.b_tuple (by decide +kernel) (pa_cons (pe_lc (own := [("_law_row", 7)]) (g := gName 7) (tt := tYes) (by rfl) sc__law_rows.nd (pi_list (pv 3)) (blkOk_by (own := [("_law_row", 7)]) (N := N__law_rows) (sc := defScope s__law_rows) (by decide +kernel)) (fun _ _ _ _ _ => pg_name (i := 7) sc__law_rows.nd rfl (by first | exact Or.inl rfl | exact Or.inr rfl)) (fun _ _ _ _ _ => pts_nil) (fun _ _ _ _ _ => (pe_callTy (At.call_tupK (K := K) rfl) (by rfl) T.b_tuple (by decide +kernel) (pa_cons (pv 7) pa_nil)))) pa_nil)))))), ?hrd⟩)
  case hlen =>
    obtain ⟨c, top, n, rfl, _⟩ := h
    rfl
  case hrd =>
    obtain ⟨c, top, n, rfl, hc, n2, n5, t2, tw, q⟩ := h
    have tmid : 2 * top + 1 ≤ MID := Int.le_trans (show 2 * top + 1 ≤ 2 * WEB + 1 by omega) (by decide +kernel)
    walk_at "gos"
    refine go_lc ?_
    walk_at "gos"
    refine And.intro (by omega) (And.intro (by omega) ?_)
    intro D nD
    refine lc_it (walk_range (lo := 0)) (fun i H' => ∃ ls : List Addr, ls.length = i ∧ Ext H H' ∧ H' D = some (.lst (ls.map .ref)) ∧ ls.Nodup ∧ ∀ k l, ls[k]? = some l → l ≠ D ∧ H l = none ∧ H' l = some (.lst ((rowOf n (fun _ _ => 0) k).map .int))) ⟨[], rfl, Evl.Ex.new nD, upd_same, List.nodup_nil, fun k l z => by cases z⟩ (fun _ _ _ _ => trivial) (fun i x H' H'' hi pv y => ?_) fun H' pv => ?_
    · obtain ⟨ls, hml, e, hD, nod, each⟩ := pv
      obtain ⟨rfl, rfl⟩ := y
      walk_at "gos"
      refine ⟨rfl, ?_⟩
      refine go_yes ?_
      walk_at "gos"
      intro l1 nl1
      walk_at "gos"
      refine ⟨l1, n, [.int 0], rfl, rfl, upd_same, by omega, by omega, by rw [sizeLine_eq]; simp; omega, fun t nt => ?_⟩
      rw [rep_zeroW (k := i)]
      have e1 : Ext H (upd H'' l1 (.lst [.int 0])) := ext_new e nl1
      have hD1 := mem_new (o := .lst (ls.map .ref)) (u := .lst [.int 0]) nl1 hD
      have tD : t ≠ D := fun z => by rw [z, hD1] at nt; cases nt
      have t0 : H t = none := Evl.fresh_back e1 nt
      have e2 : Ext H (upd (upd H'' l1 (.lst [.int 0])) t (.lst ((rowOf n (fun _ _ => 0) i).map .int))) := ext_new e1 nt
      refine ⟨_, mem_new nt hD1, by rw [List.length_map, hml, sizeLine_eq]; omega, ls ++ [t], by rw [List.length_append, hml]; rfl, e2.mut nD, by rw [upd_same, List.map_append]; rfl, ?_, fun k l hk => ?_⟩
      · rw [List.nodup_append]
        refine ⟨nod, by simp, fun l hl' b hb => ?_⟩
        obtain ⟨k, hk⟩ := List.mem_iff_getElem?.mp hl'
        obtain ⟨_, _, z⟩ := each k l hk
        rw [List.mem_singleton.mp hb]
        intro z2
        rw [z2] at z
        rw [mem_new nl1 z] at nt
        cases nt
      · rcases Nat.lt_trichotomy k ls.length with c | c | c
        · rw [List.getElem?_append_left c] at hk
          obtain ⟨z1, z2, z3⟩ := each k l hk
          exact ⟨z1, z2, by rw [upd_ne z1]; exact mem_new nt (mem_new nl1 z3)⟩
        · subst c
          rw [List.getElem?_append_right (Nat.le_refl _), Nat.sub_self] at hk
          cases Option.some.inj hk
          exact ⟨tD, t0, by rw [upd_ne tD, upd_same]; rfl⟩
        · rw [List.getElem?_eq_none (by rw [List.length_append]; exact c)] at hk
          cases hk
    · obtain ⟨ls, hml, e, hD, nod, each⟩ := pv
      have hml : ls.length = n := by omega
      have tab : TabAt H H' D n (fun _ _ => 0) := ⟨ls, hml, nD, hD, nod, each⟩
      walk_at "gos"
      refine And.intro (by omega) (And.intro (by omega) ?_)
      refine loop_range (fun i σ' H2 => ∃ y4 y5 y6 y7 f, σ' = [some (.ref c), some (.int n), some (.int top), some (.ref D), y4, y5, y6, y7] ∧ ExtC c H H2 ∧ Purse H2 c ∧ TabAt H H2 D n f ∧ (∀ i j, nat (f i j) ≤ top) ∧ ∀ i j, f i j = -f j i) ⟨_, _, _, _, _, rfl, ExtC.of e, hc.ext e, tab, (fun _ _ => nat_lt (by omega) (by omega)), fun _ _ => rfl⟩ ?_ ?_
      · rintro k σ' H2 hk ⟨y4, y5, y6, y7, f, rfl, e2, hc2, tab2, fb, sk⟩
        walk_at "gos"
        refine And.intro (by omega) (And.intro (by omega) ?_)
        refine loop_range (fun j σ' H3 => ∃ y5 y6 y7 f, σ' = [some (.ref c), some (.int n), some (.int top), some (.ref D), some (.int (k : Int)), y5, y6, y7] ∧ ExtC c H H3 ∧ Purse H3 c ∧ TabAt H H3 D n f ∧ (∀ i j, nat (f i j) ≤ top) ∧ ∀ i j, f i j = -f j i) ⟨y5, y6, y7, f, by simp, e2, hc2, tab2, fb, sk⟩ ?_ ?_
        · rintro j σ' H3 hj ⟨y5, y6, y7, f, rfl, e3, hc3, tab3, fb, sk⟩
          simp only [Int.zero_add]
          have hkN : k < n := by omega
          have hjN : j < n := by omega
          walk_at "gos"
          refine ⟨c, _, rfl, hc3, by omega, tmid, fun i1 H4 a0 a1 e4 hc4 => ?_⟩
          walk_at "gos"
          refine ⟨c, _, rfl, hc4, by omega, by decide +kernel, fun i2 H5 b0 b1 e5 hc5 => ?_⟩
          walk_at "gos"
          intro l nl
          walk_at "gos"
          refine ⟨c, l, _, rfl, hc5.new nl, upd_same, ne_purse hc5 nl, Nat.succ_pos _, Nat.le_of_ble_eq_true rfl, fun x H6 hx e6 hc6 => ?_⟩
          obtain ⟨v, rfl, hv⟩ : ∃ v : Int, x = .int v ∧ nat v ≤ top := by
            (simp only [List.mem_cons, List.not_mem_nil, or_false] at hx)
            rcases hx with rfl | rfl | rfl | rfl | rfl
            · exact ⟨_, rfl, nat_lt (by omega) (by omega)⟩
            · exact ⟨_, rfl, nat_lt (by omega) (by omega)⟩
            · exact ⟨_, rfl, nat_lt (by omega) (by omega)⟩
            · exact ⟨_, rfl, nat_lt (by omega) (by omega)⟩
            · exact ⟨_, rfl, nat_lt (by omega) (by omega)⟩
          have e36 : ExtC c H H6 := e3.trans ((e4.trans e5).trans ((ExtC.new nl).trans e6))
          walk_at "gos"
          intro T nT
          refine go_gTup (SqT.of upd_same) rfl ?_
          have tab7 := tab3.extC hc (((e4.trans e5).trans ((ExtC.new nl).trans e6)).trans (ExtC.new (o := .tup [.int v, .int (-v)]) nT))
          obtain ⟨xs, l1, hD7, hxk, l10, hl1, tab8⟩ := tab7.set hkN (j := j) v
          walk_at "gos"
          refine go_rIxL (j := k) (SqL.of hD7) (atI_nat hxk) ?_
          walk_at "gos"
          refine go_rSetL hl1 (ixN_nat (by simp [rowOf]; omega)) ?_
          obtain ⟨xs', l2, hD8, hxj, l20, hl2, tab9⟩ := tab8.set hjN (j := k) (-v)
          walk_at "gos"
          refine go_rIxL (j := j) (SqL.of hD8) (atI_nat hxj) ?_
          walk_at "gos"
          refine go_rSetL hl2 (ixN_nat (by simp [rowOf]; omega)) ?_
          walk_at "gos"
          exact ⟨_, _, _, _, rfl, ((e36.nw nT).mutP l10).mutP l20, ((hc6.new nT).past (ne_purse hc l10)).past (ne_purse hc l20), tab9, symW_le hv fb, symW_skew (by omega) sk⟩
        · rintro σ' H3 ⟨y5, y6, y7, f, rfl, e3, hc3, tab3, fb, sk⟩
          exact ⟨_, _, _, _, _, rfl, e3, hc3, tab3, fb, sk⟩
      · rintro σ' H2 ⟨y4, y5, y6, y7, f, rfl, e2, hc2, tab2, fb, sk⟩
        obtain ⟨ks, k1, k2, k3, k4, k5⟩ := tab2
        have kl : (ks.map V.ref).length = n := by rw [List.length_map, k1]
        walk_at "gos"
        refine go_lc ?_
        walk_at "gos"
        refine ⟨⟨_, SqL.of k3⟩, ?_⟩
        intro D2 nD2
        refine lc_it (walk_list (xs := ks.map V.ref)) (fun i H' => ∃ rs2 : List Addr, rs2.length = i ∧ Ext H2 H' ∧ H' D2 = some (.lst (rs2.map .ref)) ∧ ∀ k r, rs2[k]? = some r → H' r = some (.tup ((rowOf n f k).map .int))) ⟨[], rfl, Evl.Ex.new nD2, upd_same, fun k r z => by cases z⟩ (fun i H' _ pv => by
          obtain ⟨_, _, e, _⟩ := pv
          exact SqL.of (e _ _ k3)) (fun i x H' H'' hi pv y => ?_) fun H' pv => ?_
        · obtain ⟨rs2, hml, e3, hD2, each2⟩ := pv
          obtain ⟨rfl, hx⟩ := y
          rw [List.getElem?_map] at hx
          obtain ⟨l, hli, rfl⟩ := Option.map_eq_some_iff.mp hx
          obtain ⟨_, _, z3⟩ := k5 i l hli
          have hl1 := e3 _ _ z3
          walk_at "gos"
          refine ⟨rfl, ?_⟩
          refine go_yes ?_
          walk_at "gos"
          refine ⟨l, _, rfl, .inl ⟨SqL.of hl1, fun t nt => ?_⟩⟩
          have e4 := ext_new (o := .tup ((rowOf n f i).map .int)) e3 nt
          refine ⟨_, mem_new nt hD2, by rw [List.length_map, hml, sizeLine_eq]; rw [kl] at hi; omega, rs2 ++ [t], by rw [List.length_append, hml]; rfl, e4.mut nD2, by rw [upd_same, List.map_append]; rfl, fun k r hk => ?_⟩
          have all4 : upd H'' t (.tup ((rowOf n f i).map .int)) r = some (.tup ((rowOf n f k).map .int)) := by
            rcases Nat.lt_trichotomy k rs2.length with c | c | c
            · rw [List.getElem?_append_left c] at hk
              exact mem_new nt (each2 k r hk)
            · subst c
              rw [List.getElem?_append_right (Nat.le_refl _), Nat.sub_self] at hk
              cases Option.some.inj hk
              rw [upd_same, hml]
            · rw [List.getElem?_eq_none (by rw [List.length_append]; exact c)] at hk
              cases hk
          rw [upd_ne (fun z => by rw [z, mem_new nt hD2] at all4; cases all4)]
          exact all4
        · obtain ⟨rs2, hml, e3, hD2, each2⟩ := pv
          rw [kl] at hml
          walk_at "gos"
          refine ⟨D2, _, rfl, .inl ⟨SqL.of hD2, fun t nt => q t f _ (e2.trans (ExtC.of (ext_new e3 nt))) (hc2.ext (ext_new e3 nt)) ⟨rs2, hml, upd_same, fun k r z => mem_new nt (each2 k r z)⟩ fb sk⟩⟩
theorem ok__law_rows (T : Top w K mg) : OkD P w K mg base 3 (He.ga K "_law_rows") ["_law_purse_here", "_law_many", "_law_top"] (sp__law_rows K) := by
  obtain ⟨fd, F⟩ := T.f__law_rows
  exact ⟨fd, fn__law_rows T F, F.binds (ps := ["_law_purse_here", "_law_many", "_law_top"]) fun _ _ _ _ _ _ us hl => match us, hl with | [_, _, _], _ => rfl, F.kp⟩
end
end At

namespace At
open L2 PyProof.Rows PySem.Spec PySem
section
variable {base : Heap} {w : World} {K : PySem.W.Frag} {mg : Str → Option Value} {P : Program}
abbrev N__law_size : List Str := ["_law_rows_here", "_law_row", "_law_part"]
theorem sc__law_size : FnScope N__law_size ["_law_rows_here"] (defScope s__law_size) := ⟨rfl, rfl, rfl, by decide +kernel, rfl, by decide +kernel, by decide +kernel⟩
def sp__law_size (K : PySem.W.Frag) : Sp := fun vs H Q _ => ∃ a n f, vs = [.ref a] ∧ MatAt H a n f ∧ 1 ≤ n ∧ n ≤ 1000 ∧ ∀ m H', Ext H H' → (∀ i j, i < n → j < n → nat (f i j) ≤ m) → Q (.int m) H'
theorem fn__law_size (T : Top w K mg) {fd : FuncData} (F : Fun K "_law_size" "_law_size" s__law_size (He.ga K "_law_size") fd) : FnOk P w K mg base CX0 1 (He.ga K "_law_size") fd ["_law_rows_here"] (sp__law_size K) := by
  refine F.ok sc__law_size (fun vs H Q E h => ?hlen) (fun cdv A outer s H vs Q E hr h => ⟨_, (pss_one (ps_ret (pe_callB (cr_max rfl) (by rfl) T.b_max (by decide +kernel) (pa_cons (pe_lc (own := [("_law_row", 1)]) (g := gName 1) (tt := tYes) (by rfl) sc__law_size.nd (pi_tup (pv 0)) (blkOk_by (own := [("_law_row", 1)]) (N := N__law_size) (sc := defScope s__law_size) (by decide +kernel)) (fun _ _ _ _ _ => pg_name (i := 1) sc__law_size.nd rfl (by first | exact Or.inl rfl | exact Or.inr rfl)) (fun _ _ _ _ _ => pts_nil) (fun _ _ _ _ _ => (pe_callB (At.cr_maxK (K := K) rfl rfl) (by rfl) T.b_max (by decide +kernel) (pa_cons (pe_lc (own := [("_law_part", 2)]) (g := gName 2) (tt := tYes) (by rfl) sc__law_size.nd (At.pi_tupK (K := K) rfl (pv 1)) (blkOk_by (own := [("_law_part", 2)]) (by rfl)) (fun _ _ _ _ _ => pg_name (i := 2) sc__law_size.nd rfl (by first | exact Or.inl rfl | exact Or.inr rfl)) (fun _ _ _ _ _ => pts_nil) (fun _ _ _ _ _ => (pe_callB call_abs (by rfl) T.b_abs (by decide +kernel) (pa_cons (pv 2) pa_nil)))) pa_nil)))) pa_nil)))), ?hrd⟩)
  case hlen =>
    obtain ⟨a, n, f, rfl, _⟩ := h
    rfl
  case hrd =>
    obtain ⟨a, n, f, rfl, hm, h1, h2, q⟩ := h
    obtain ⟨rs, hl, ha, hr⟩ := hm
    walk_at "gos"
    refine go_lc ?_
    walk_at "gos"
    refine ⟨⟨_, SqT.of ha⟩, ?_⟩
    intro D nD
    have al : (rs.map V.ref).length = n := by rw [List.length_map, hl]
    refine lc_it (walk_tup (xs := rs.map V.ref)) (fun i H' => ∃ ms : List Int, ms.length = i ∧ (∀ k m, ms[k]? = some m → ∀ j, j < n → nat (f k j) ≤ m) ∧ Ext H H' ∧ H' D = some (.lst (ms.map .int))) ⟨[], rfl, (fun k m z => by cases z), Evl.Ex.new nD, upd_same⟩ (fun i H' _ pv => by
      obtain ⟨_, _, _, e, _⟩ := pv
      exact SqT.of (e _ _ ha)) (fun i x H' H'' hi pv y => ?_) fun H' pv => ?_
    · obtain ⟨ms, hml, hmb, e, hD⟩ := pv
      obtain ⟨rfl, hx⟩ := y
      rw [List.getElem?_map] at hx
      obtain ⟨r, hri, rfl⟩ := Option.map_eq_some_iff.mp hx
      have hr1 := e _ _ (hr i r hri)
      walk_at "gos"
      refine ⟨rfl, ?_⟩
      refine go_yes ?_
      walk_at "gos"
      refine go_lc ?_
      walk_at "gos"
      refine ⟨⟨_, SqT.of hr1⟩, lc_tupP hr1 (by simp [rowOf]; omega) (fun x => match x with
        | .int v => .int (nat v)
        | v => v) (fun D2 nD2 x H2 hx2 e2 QE hq => ?_) fun D2 nD2 H2 e2 hD2 => ?_⟩
      · obtain ⟨v, _, rfl⟩ := List.mem_map.mp hx2
        walk_at "gos"
        refine ⟨rfl, ?_⟩
        walk_at "gos"
        exact hq H2 (Evl.Ex.refl _)
      · walk_at "gos"
        refine ⟨D2, (rowOf n f i).map nat, rfl, SqL.of (by rw [hD2, List.map_map, List.map_map]; rfl), by simp [rowOf]; omega, fun m hm hmax => ?_⟩
        refine ⟨_, e2 _ _ hD, by rw [List.length_map, hml, sizeLine_eq]; rw [al] at hi; omega, ms ++ [m], by rw [List.length_append, hml]; rfl, fun k m' hk j hj => ?_, (e.trans e2).mut nD, by rw [upd_same, List.map_append]; rfl⟩
        rcases Nat.lt_trichotomy k ms.length with c | c | c
        · rw [List.getElem?_append_left c] at hk
          exact hmb k m' hk j hj
        · subst c
          rw [List.getElem?_append_right (Nat.le_refl _), Nat.sub_self] at hk
          cases Option.some.inj hk
          rw [hml]
          exact hmax _ (List.mem_map.mpr ⟨_, List.mem_map.mpr ⟨j, List.mem_range.mpr hj, rfl⟩, rfl⟩)
        · rw [List.getElem?_eq_none (by rw [List.length_append]; exact c)] at hk
          cases hk
    · obtain ⟨ms, hml, hmb, e, hD⟩ := pv
      rw [al] at hml
      walk_at "gos"
      refine ⟨D, ms, rfl, SqL.of hD, by omega, fun m hm hmax => q m H' e fun i j hi hj => ?_⟩
      have hi' : i < ms.length := by omega
      exact Int.le_trans (hmb i _ (List.getElem?_eq_getElem hi') j hj) (hmax _ (List.getElem_mem hi'))
theorem ok__law_size (T : Top w K mg) : OkD P w K mg base 1 (He.ga K "_law_size") ["_law_rows_here"] (sp__law_size K) := by
  obtain ⟨fd, F⟩ := T.f__law_size
  exact ⟨fd, fn__law_size T F, F.binds (ps := ["_law_rows_here"]) fun _ _ _ _ _ _ us hl => match us, hl with | [_], _ => rfl, F.kp⟩
end
end At

namespace At
open L2 PyProof.Rows PySem.Spec PySem
section
variable {base : Heap} {w : World} {K : PySem.W.Frag} {mg : Str → Option Value} {P : Program}
abbrev N_number_behind : List Str := ["rows", "place", "start", "goal", "number", "coming", "going"]
theorem sc_number_behind : FnScope N_number_behind ["rows", "place", "start", "goal"] (defScope s_number_behind) := ⟨rfl, rfl, rfl, by decide +kernel, rfl, by decide +kernel, by decide +kernel⟩
def sp_number_behind (K : PySem.W.Frag) : Sp := fun vs H Q _ => ∃ a n f, ∃ p i j : Nat, vs = [.ref a, .int p, .int i, .int j] ∧ MatAt H a n f ∧ p < n ∧ i < n ∧ j < n ∧ (∀ i j, nat (f i j) ≤ WEB) ∧ ∀ H', Ext H H' → Q (.int (mutW f p i j)) H'
theorem fn_number_behind (T : Top w K mg) {fd : FuncData} (F : Fun K "number_behind" "number_behind" s_number_behind (He.ga K "number_behind") fd) : FnOk P w K mg base CX0 1 (He.ga K "number_behind") fd ["rows", "place", "start", "goal"] (sp_number_behind K) := by
  refine F.ok sc_number_behind (fun vs H Q E h => ?hlen) (fun cdv A outer s H vs Q E hr h => ⟨_, (pss_cons (ps_set (i := 4) sc_number_behind.nd rfl (Or.inl rfl) (pe_ix ix_tup (pe_ix ix_tup (pv 0) (pv 2) (fun _ _ => rfl)) (pv 3) (fun _ _ => rfl)))
    (pss_cons (ps_if (pt_cmpR op_in_seq (pv 1) (pe_tup (pa_cons (pv 2) (pa_cons (pv 3) pa_nil))) (by with_unfolding_all rfl)) (pss_one (ps_ret (pe_un un_neg (pv 4)))) pss_nil)
    (pss_cons (ps_par (i := 5) (j := 6) (by rfl) sc_number_behind.nd rfl rfl (by decide) rfl rfl (pa_cons (pe_ix ix_tup (pe_ix ix_tup (pv 0) (pv 2) (fun _ _ => rfl)) (pv 1) (fun _ _ => rfl)) (pa_cons (pe_ix ix_tup (pe_ix ix_tup (pv 0) (pv 1) (fun _ _ => rfl)) (pv 3) (fun _ _ => rfl)) pa_nil)) (by rfl))
    (pss_cons (ps_if (PW.pt (pw_and (pt_cmpR op_gt (pv 5) pe_int (nomark _)) (pw_and1 (pt_cmpR op_gt (pv 6) pe_int (nomark _))))) (pss_one (ps_ret (pe_op op_add (pv 4) (pe_op op_mulW (pv 5) (pv 6))))) pss_nil)
    (pss_cons (ps_if (PW.pt (pw_and (pt_cmpR op_lt (pv 5) pe_int (nomark _)) (pw_and1 (pt_cmpR op_lt (pv 6) pe_int (nomark _))))) (pss_one (ps_ret (pe_op op_sub (pv 4) (pe_op op_mulW (pv 5) (pv 6))))) pss_nil)
    (pss_one (ps_ret (pv 4)))))))), ?hrd⟩)
  case hlen =>
    obtain ⟨a, n, f, p, i, j, rfl, _⟩ := h
    rfl
  case hrd =>
    obtain ⟨a, n, f, p, i, j, rfl, hm, hp, hi, hj, hb, q⟩ := h
    obtain ⟨xs, ri, ha, hxi, hri⟩ := hm.row hi
    obtain ⟨xs', rp, ha', hxp, hrp⟩ := hm.row hp
    cases (Option.some.inj (ha.symm.trans ha'))
    walk_at "gos"
    refine go_rIxT (j := i) (SqT.of ha) (atI_nat hxi) ?_
    walk_at "gos"
    refine go_rIxT (j := j) (SqT.of hri) (atI_nat (rowOf_at hj)) ?_
    walk_at "gos"
    intro p1 n1
    refine ⟨p1, _, rfl, .inr (SqT.of upd_same), rfl, rfl, ?_⟩
    have e1 : Ext H (upd H p1 (.tup [.int (i : Int), .int (j : Int)])) := ext_new (Evl.Ex.refl _) n1
    generalize upd H p1 (.tup [.int (i : Int), .int (j : Int)]) = H1 at e1
    have ha1 := e1 _ _ ha
    have hri1 := e1 _ _ hri
    have hrp1 := e1 _ _ hrp
    have q1 := fun v (h : mutW f p i j = v) => h ▸ q H1 e1
    unfold mutW at q1
    rw [if_neg Bool.false_ne_true, inV_two]
    refine ⟨_, rfl, ?_⟩
    refine go_ite (fun c => ?_) (fun c => ?_)
    · walk_at "gos"
      exact q1 _ (if_pos (by omega))
    rw [if_neg (show ¬ (p = i ∨ p = j) by omega)] at q1
    have bd : CMulW (f i p) (f p j) := mul_ok (B := MID) (by decide +kernel) (Int.le_trans (hb i p) (by decide +kernel)) (Int.le_trans (hb p j) (by decide +kernel))
    walk_at "gos"
    refine go_rIxT (j := i) (SqT.of ha1) (atI_nat hxi) ?_
    walk_at "gos"
    refine go_rIxT (j := p) (SqT.of hri1) (atI_nat (rowOf_at hp)) ?_
    walk_at "gos"
    refine go_rIxT (j := p) (SqT.of ha1) (atI_nat hxp) ?_
    walk_at "gos"
    refine go_rIxT (j := j) (SqT.of hrp1) (atI_nat (rowOf_at hj)) ?_
    walk_at "gos"
    refine go_ite (fun c1 => ?_) (fun c1 => ?_)
    · walk_at "gos"
      refine go_ite (fun c2 => ?_) (fun c2 => ?_)
      · walk_at "gos"
        exact q1 _ (if_pos ⟨c1, c2⟩)
      · walk_at "gos"
        refine go_ite (fun z => absurd z (by omega)) (fun _ => ?_)
        walk_at "gos"
        exact q1 _ (by rw [if_neg (by omega), if_neg (by omega)])
    · walk_at "gos"
      refine go_ite (fun c3 => ?_) (fun c3 => ?_)
      · walk_at "gos"
        refine go_ite (fun c4 => ?_) (fun c4 => ?_)
        · walk_at "gos"
          exact q1 _ (by rw [if_neg (by omega), if_pos ⟨c3, c4⟩])
        · walk_at "gos"
          exact q1 _ (by rw [if_neg (by omega), if_neg (by omega)])
      · walk_at "gos"
        exact q1 _ (by rw [if_neg (by omega), if_neg (by omega)])
theorem ok_number_behind (T : Top w K mg) : OkD P w K mg base 1 (He.ga K "number_behind") ["rows", "place", "start", "goal"] (sp_number_behind K) := by
  obtain ⟨fd, F⟩ := T.f_number_behind
  exact ⟨fd, fn_number_behind T F, F.binds (ps := ["rows", "place", "start", "goal"]) fun _ _ _ _ _ _ us hl => match us, hl with | [_, _, _, _], _ => rfl, F.kp⟩
end
end At

namespace At
open L2 PyProof.Rows PySem.Spec PySem
section
variable {base : Heap} {w : World} {K : PySem.W.Frag} {mg : Str → Option Value} {P : Program}
abbrev N_row_behind : List Str := ["rows", "place", "start", "goal"]
theorem sc_row_behind : FnScope N_row_behind ["rows", "place", "start"] (defScope s_row_behind) := ⟨rfl, rfl, rfl, by decide +kernel, rfl, by decide +kernel, by decide +kernel⟩
def sp_row_behind (K : PySem.W.Frag) : Sp := fun vs H Q _ => ∃ a n f, ∃ p i : Nat, vs = [.ref a, .int p, .int i] ∧ MatAt H a n f ∧ p < n ∧ i < n ∧ n ≤ 1000 ∧ (∀ i j, nat (f i j) ≤ WEB) ∧ ∀ r H', H r = none → Ext H H' → H' r = some (.tup ((rowOf n (mutW f p) i).map .int)) → Q (.ref r) H'
theorem fn_row_behind (T : Top w K mg) {fd : FuncData} (F : Fun K "row_behind" "row_behind" s_row_behind (He.ga K "row_behind") fd) : FnOk P w K mg base CX0 2 (He.ga K "row_behind") fd ["rows", "place", "start"] (sp_row_behind K) := by
  obtain ⟨fd_number_behind, G_number_behind, b_number_behind, k_number_behind⟩ := ok_number_behind (P := P) (w := w) (base := base) T
  refine F.ok sc_row_behind (fun vs H Q E h => ?hlen) (fun cdv A outer s H vs Q E hr h => ⟨_, (pss_one (ps_ret (pe_callTy call_tuple_of (by rfl) T.b_tuple (by decide +kernel) (pa_cons (pe_lc (own := [("goal", 3)]) (g := gName 3) (tt := tYes) (by rfl) sc_row_behind.nd (pi_range1 (by rfl) T.b_range (pa_cons (pe_callB call_len_seq (by rfl) T.b_len PySem.boot_len (pa_cons (pv 0) pa_nil)) pa_nil)) (blkOk_by (own := [("goal", 3)]) (N := N_row_behind) (sc := defScope s_row_behind) (by decide +kernel)) (fun _ _ _ _ _ => pg_name (i := 3) sc_row_behind.nd rfl (by first | exact Or.inl rfl | exact Or.inr rfl)) (fun _ _ _ _ _ => pts_nil) (fun _ _ _ _ _ => (pe_call G_number_behind (hr.mono (by decide)) (by rfl) T.g_number_behind k_number_behind b_number_behind .nil pass0 (pa_cons (pv 0) (pa_cons (pv 1) (pa_cons (pv 2) (pa_cons (pv 3) pa_nil))))))) pa_nil)))), ?hrd⟩)
  case hlen =>
    obtain ⟨a, n, f, p, i, rfl, _⟩ := h
    rfl
  case hrd =>
    obtain ⟨a, n, f, p, i, rfl, hm, hp, hi, hn, hb, q⟩ := h
    obtain ⟨xs, ha, hx⟩ : ∃ xs : List V, H a = some (.tup xs) ∧ xs.length = n := by
      obtain ⟨rs, h1, h2, _⟩ := hm
      exact ⟨_, h2, by rw [List.length_map]; exact h1⟩
    walk_at "gos"
    refine go_lc ?_
    walk_at "gos"
    refine ⟨_, _, rfl, .inr (SqT.of ha), ?_⟩
    walk_at "gos"
    rw [hx]
    refine And.intro (by omega) (And.intro (by omega) ?_)
    refine lc_rng (lo := 0) (n := n) (by omega) (fun j => .int (mutW f p i j)) (fun D nD j H' hj e QE hq => ?_) fun D nD H' e hD => ?_
    · walk_at "gos"
      refine ⟨rfl, ?_⟩
      walk_at "gos"
      refine ⟨a, n, f, p, i, j, by rw [Int.zero_add], hm.ext e, hp, hi, hj, hb, fun H2 e2 => hq H2 e2⟩
    · walk_at "gos"
      refine ⟨D, _, rfl, .inl ⟨SqL.of hD, fun l nl => q l _ (Evl.fresh_back e nl) (ext_new e nl) ?_⟩⟩
      rw [upd_same, rowOf, List.map_map]
      rfl
theorem ok_row_behind (T : Top w K mg) : OkD P w K mg base 2 (He.ga K "row_behind") ["rows", "place", "start"] (sp_row_behind K) := by
  obtain ⟨fd, F⟩ := T.f_row_behind
  exact ⟨fd, fn_row_behind T F, F.binds (ps := ["rows", "place", "start"]) fun _ _ _ _ _ _ us hl => match us, hl with | [_, _, _], _ => rfl, F.kp⟩
end
end At

namespace At
open L2 PyProof.Rows PySem.Spec PySem
section
variable {base : Heap} {w : World} {K : PySem.W.Frag} {mg : Str → Option Value} {P : Program}
abbrev N_rows_behind : List Str := ["rows", "place", "start"]
theorem sc_rows_behind : FnScope N_rows_behind ["rows", "place"] (defScope s_rows_behind) := ⟨rfl, rfl, rfl, by decide +kernel, rfl, by decide +kernel, by decide +kernel⟩
def sp_rows_behind (K : PySem.W.Frag) : Sp := fun vs H Q _ => ∃ a n f, ∃ p : Nat, vs = [.ref a, .int p] ∧ MatAt H a n f ∧ p < n ∧ n ≤ 1000 ∧ (∀ i j, nat (f i j) ≤ WEB) ∧ ∀ r H', H r = none → Ext H H' → MatAt H' r n (mutW f p) → Q (.ref r) H'
theorem fn_rows_behind (T : Top w K mg) {fd : FuncData} (F : Fun K "rows_behind" "rows_behind" s_rows_behind (He.ga K "rows_behind") fd) : FnOk P w K mg base CX0 3 (He.ga K "rows_behind") fd ["rows", "place"] (sp_rows_behind K) := by
  obtain ⟨fd_row_behind, G_row_behind, b_row_behind, k_row_behind⟩ := ok_row_behind (P := P) (w := w) (base := base) T
  refine F.ok sc_rows_behind (fun vs H Q E h => ?hlen) (fun cdv A outer s H vs Q E hr h => ⟨_, (pss_one (ps_ret (pe_callTy call_tuple_of (by rfl) T.b_tuple (by decide +kernel) (pa_cons (pe_lc (own := [("start", 2)]) (g := gName 2) (tt := tYes) (by rfl) sc_rows_behind.nd (pi_range1 (by rfl) T.b_range (pa_cons (pe_callB call_len_seq (by rfl) T.b_len PySem.boot_len (pa_cons (pv 0) pa_nil)) pa_nil)) (blkOk_by (own := [("start", 2)]) (N := N_rows_behind) (sc := defScope s_rows_behind) (by decide +kernel)) (fun _ _ _ _ _ => pg_name (i := 2) sc_rows_behind.nd rfl (by first | exact Or.inl rfl | exact Or.inr rfl)) (fun _ _ _ _ _ => pts_nil) (fun _ _ _ _ _ => (pe_call G_row_behind (hr.mono (by decide)) (by rfl) T.g_row_behind k_row_behind b_row_behind .nil pass0 (pa_cons (pv 0) (pa_cons (pv 1) (pa_cons (pv 2) pa_nil)))))) pa_nil)))), ?hrd⟩)
  case hlen =>
    obtain ⟨a, n, f, p, rfl, _⟩ := h
    rfl
  case hrd =>
    obtain ⟨a, n, f, p, rfl, hm, hp, hn, hb, q⟩ := h
    obtain ⟨xs, ha, hx⟩ : ∃ xs : List V, H a = some (.tup xs) ∧ xs.length = n := by
      obtain ⟨rs, h1, h2, _⟩ := hm
      exact ⟨_, h2, by rw [List.length_map]; exact h1⟩
    walk_at "gos"
    refine go_lc ?_
    walk_at "gos"
    refine ⟨_, _, rfl, .inr (SqT.of ha), ?_⟩
    walk_at "gos"
    rw [hx]
    refine And.intro (by omega) (And.intro (by omega) ?_)
    intro D nD
    refine lc_it (walk_range (lo := 0)) (fun i H' => ∃ rs : List Addr, rs.length = i ∧ Ext H H' ∧ H' D = some (.lst (rs.map .ref)) ∧ ∀ k r, rs[k]? = some r → H' r = some (.tup ((rowOf n (mutW f p) k).map .int))) ⟨[], rfl, Evl.Ex.new nD, upd_same, fun k r z => by cases z⟩ (fun _ _ _ _ => trivial) (fun i x H' H'' hi pv y => ?_) fun H' pv => ?_
    · obtain ⟨rs, hl, e, hD, hr⟩ := pv
      obtain ⟨rfl, rfl⟩ := y
      walk_at "gos"
      refine ⟨rfl, ?_⟩
      refine go_yes ?_
      walk_at "gos"
      have hiN : rs.length < n := by omega
      refine ⟨a, n, f, p, rs.length, by simp [hl], hm.ext e, hp, hiN, hn, hb, fun r H4 nr e4 hr4 => ?_⟩
      have all4 : ∀ k r', (rs ++ [r])[k]? = some r' → H4 r' = some (.tup ((rowOf n (mutW f p) k).map .int)) := fun k r' hk => by
        rcases Nat.lt_trichotomy k rs.length with c | c | c
        · rw [List.getElem?_append_left c] at hk
          exact e4 _ _ (hr k r' hk)
        · subst c
          rw [List.getElem?_append_right (Nat.le_refl _), Nat.sub_self] at hk
          cases Option.some.inj hk
          exact hr4
        · rw [List.getElem?_eq_none (by rw [List.length_append]; exact c)] at hk
          cases hk
      refine ⟨_, e4 _ _ hD, by rw [List.length_map, hl, sizeLine_eq]; omega, rs ++ [r], by rw [List.length_append, hl]; rfl, (e.trans e4).mut nD, by rw [upd_same, List.map_append]; rfl, fun k r' hk => ?_⟩
      rw [upd_ne (fun z => by have h1 := all4 k r' hk; rw [z, e4 _ _ hD] at h1; cases h1)]
      exact all4 k r' hk
    · obtain ⟨rs, hl, e, hD, hr⟩ := pv
      walk_at "gos"
      refine ⟨D, _, rfl, .inl ⟨SqL.of hD, fun l nl => q l _ (Evl.fresh_back e nl) (ext_new e nl) ⟨rs, hl, upd_same, fun k r z => mem_new nl (hr k r z)⟩⟩⟩
theorem ok_rows_behind (T : Top w K mg) : OkD P w K mg base 3 (He.ga K "rows_behind") ["rows", "place"] (sp_rows_behind K) := by
  obtain ⟨fd, F⟩ := T.f_rows_behind
  exact ⟨fd, fn_rows_behind T F, F.binds (ps := ["rows", "place"]) fun _ _ _ _ _ _ us hl => match us, hl with | [_, _], _ => rfl, F.kp⟩
end
end At

namespace At
open L2 PyProof.Rows PySem.Spec PySem
section
variable {base : Heap} {w : World} {K : PySem.W.Frag} {mg : Str → Option Value} {P : Program}
abbrev N_is_too_great : List Str := ["rows", "row", "number"]
theorem sc_is_too_great : FnScope N_is_too_great ["rows"] (defScope s_is_too_great) := ⟨rfl, rfl, rfl, by decide +kernel, rfl, by decide +kernel, by decide +kernel⟩
def sp_is_too_great (K : PySem.W.Frag) : Sp := fun vs H Q _ => ∃ a n f, vs = [.ref a] ∧ MatAt H a n f ∧ 1 ≤ n ∧ n ≤ 200 ∧ ∀ b H', Ext H H' → (b = true ↔ ∃ i j, i < n ∧ j < n ∧ WEB < nat (f i j)) → Q (.bl b) H'
theorem fn_is_too_great (T : Top w K mg) {fd : FuncData} (F : Fun K "is_too_great" "is_too_great" s_is_too_great (He.ga K "is_too_great") fd) : FnOk P w K mg base CX0 1 (He.ga K "is_too_great") fd ["rows"] (sp_is_too_great K) := by
  obtain ⟨u_MOST_WEB, e_MOST_WEB, r_MOST_WEB⟩ := T.n_MOST_WEB
  refine F.ok sc_is_too_great (fun vs H Q E h => ?hlen) (fun cdv A outer s H vs Q E hr h => ⟨_, (pss_one (ps_ret (pe_cmpR op_gt (pe_callB (cr_max rfl) (by rfl) T.b_max (by decide +kernel) (pa_cons (pe_lc2 (own := [("row", 1), ("number", 2)]) (vs1 := [2]) (g := gName 1) (tt := tYes) (g1 := gName 2) (tt1 := tYes) (by rfl) sc_is_too_great.nd (pi_tup (pv 0)) (blkOk_by (own := [("row", 1), ("number", 2)]) (N := N_is_too_great) (sc := defScope s_is_too_great) (by decide +kernel)) (by decide) (fun _ _ _ _ _ => pg_name (i := 1) sc_is_too_great.nd rfl (Or.inl rfl)) (fun _ _ _ _ _ => pts_nil) (fun _ _ _ _ _ => (At.pi_tupK (K := K) rfl (pv 1))) (fun _ _ _ _ _ => pg_name (i := 2) sc_is_too_great.nd rfl (Or.inl rfl)) (fun _ _ _ _ _ => pts_nil) (fun _ _ _ _ _ => (pe_callB call_abs (by rfl) T.b_abs (by decide +kernel) (pa_cons (pv 2) pa_nil)))) pa_nil)) (pe_glob rfl e_MOST_WEB r_MOST_WEB) (nomark _)))), ?hrd⟩)
  case hlen =>
    obtain ⟨a, n, f, rfl, _⟩ := h
    rfl
  case hrd =>
    obtain ⟨a, n, f, rfl, hm, h1, h2, q⟩ := h
    obtain ⟨rs, hl, ha, hr⟩ := hm
    walk_at "gos"
    have rl : ∀ i, ((rowOf n f i).map V.int).length = n := fun i => by simp [rowOf]
    have al : (rs.map V.ref).length = n := by rw [List.length_map, hl]
    refine ⟨_, rfl, a, rfl, ⟨_, SqT.of ha⟩, fun D nD => ?_⟩
    refine ⟨fun i m H' => m = n - i ∧ i ≤ n ∧ Ext H H' ∧ H' D = some (.lst ((flatW n f i).map .int)), ⟨n, rfl, Nat.zero_le _, Evl.Ex.new nD, upd_same⟩, ?_⟩
    rintro i m H' ⟨rfl, hi, e, hD⟩
    have ha1 := SqT.of (K := K) (e _ _ ha)
    by_cases hlt : i < n
    · refine .inr ⟨walk_tup.goes i H' (by rw [al]; exact hlt) ha1, fun H2 => Ext H H2 ∧ H2 D = some (.lst ((flatW n f (i + 1)).map .int)), fun H2 z => ⟨n - (i + 1), by omega, rfl, hlt, z.1, z.2⟩, fun x H2 y => ?_⟩
      obtain ⟨rfl, hx⟩ := walk_tup.yields i H' x H2 (by rw [al]; exact hlt) ha1 y
      rw [List.getElem?_map] at hx
      obtain ⟨r, hri, rfl⟩ := Option.map_eq_some_iff.mp hx
      walk_at "gos"
      refine ⟨rfl, ?_⟩
      refine go_yes ?_
      refine go_iteT ?_
      refine ⟨_, rfl, r, rfl, ⟨_, SqT.of (e _ _ (hr i r hri))⟩, ?_⟩
      refine ⟨fun j k H3 => k = n - j ∧ j ≤ n ∧ Ext H H3 ∧ H3 D = some (.lst ((flatW n f i ++ ((rowOf n f i).take j).map nat).map .int)), ⟨n, rfl, Nat.zero_le _, e, by rw [List.take_zero, List.map_nil, List.append_nil]; exact hD⟩, ?_⟩
      rintro j k H3 ⟨rfl, hj, e3, hD3⟩
      have hr3 := SqT.of (K := K) (e3 _ _ (hr i r hri))
      by_cases jlt : j < n
      · refine .inr ⟨walk_tup.goes j H3 (by rw [rl]; exact jlt) hr3, fun H4 => Ext H H4 ∧ H4 D = some (.lst ((flatW n f i ++ ((rowOf n f i).take (j + 1)).map nat).map .int)), fun H4 z => ⟨n - (j + 1), by omega, rfl, jlt, z.1, z.2⟩, fun x H4 y => ?_⟩
        obtain ⟨rfl, hx⟩ := walk_tup.yields j H3 x H4 (by rw [rl]; exact jlt) hr3 y
        rw [rowOf_at jlt] at hx
        cases Option.some.inj hx
        walk_at "gos"
        refine ⟨rfl, ?_⟩
        refine go_yes ?_
        walk_at "gos"
        have hk : (rowOf n f i)[j]? = some (f i j) := by rw [rowOf, List.getElem?_map, List.getElem?_range jlt]; rfl
        refine ⟨_, hD3, ?_, e3.mut nD, ?_⟩
        · rw [List.length_map, List.length_append, flatW_len, List.length_map, List.length_take, sizeLine_eq]
          have := Nat.mul_le_mul (show i ≤ 200 by omega) h2
          omega
        · rw [upd_same, List.take_add_one, hk]
          simp only [List.map_append, List.append_assoc]
          rfl
      · have ej : j = n := by omega
        subst ej
        refine .inl ⟨by have := walk_tup.stops H3 hr3; rwa [rl] at this, e3, ?_⟩
        rw [hD3, flatW_succ, List.take_of_length_le (by simp [rowOf])]
    · have ei : i = n := by omega
      subst ei
      refine .inl ⟨by have := walk_tup.stops H' ha1; rwa [al] at this, ?_⟩
      walk_at "gos"
      refine ⟨D, _, rfl, SqL.of hD, by rw [flatW_len]; exact Nat.mul_pos h1 h1, fun m hm hmax => ?_⟩
      walk_at "gos"
      refine q _ _ e ⟨fun z => ?_, fun ⟨i, j, hi, hj, hb⟩ => ?_⟩
      · obtain ⟨i, j, hi, hj, rfl⟩ := mem_flatW.mp hm
        exact ⟨i, j, hi, hj, of_decide_eq_true z⟩
      · exact decide_eq_true (Int.lt_of_lt_of_le hb (hmax _ (mem_flatW.mpr ⟨i, j, hi, hj, rfl⟩)))
theorem ok_is_too_great (T : Top w K mg) : OkD P w K mg base 1 (He.ga K "is_too_great") ["rows"] (sp_is_too_great K) := by
  obtain ⟨fd, F⟩ := T.f_is_too_great
  exact ⟨fd, fn_is_too_great T F, F.binds (ps := ["rows"]) fun _ _ _ _ _ _ us hl => match us, hl with | [_], _ => rfl, F.kp⟩
end
end At

namespace At
open L2 PyProof.Rows PySem.Spec PySem
section
variable {base : Heap} {w : World} {K : PySem.W.Frag} {mg : Str → Option Value} {P : Program}
abbrev N_Web_turn : List Str := ["self", "place", "rows"]
theorem sc_Web_turn : FnScope N_Web_turn ["self", "place"] (defScope s_Web_turn) := ⟨rfl, rfl, rfl, by decide +kernel, rfl, by decide +kernel, by decide +kernel⟩
def sp_Web_turn (K : PySem.W.Frag) : Sp := fun vs H Q _ => ∃ s dx a n f, ∃ p : Nat, vs = [.ref s, .int p] ∧ H s = some (.ins (He.ga K "Web") dx [("_rows", .ref a)]) ∧ MatAt H a n f ∧ 2 ≤ n ∧ n ≤ 5 ∧ p < n ∧ (∀ i j, nat (f i j) ≤ WEB) ∧ (∀ i j, f i j = -f j i) ∧ (∀ i j, nat (mutW f p i j) ≤ WEB) ∧ (∀ i j, mutW f p i j = -mutW f p j i) ∧ ∀ s' dx' a' H', Ext H H' → H' s' = some (.ins (He.ga K "Web") dx' [("_rows", .ref a')]) → MatAt H' a' n (mutW f p) → Q (.ref s') H'
theorem fn_Web_turn (T : Top w K mg) {fd : FuncData} (F : Fun K "turn" "Web.turn" s_Web_turn (method K "Web" "turn") fd) : FnOk P w K mg base CX0 7 (method K "Web" "turn") fd ["self", "place"] (sp_Web_turn K) := by
  obtain ⟨fd_is_integer_within, G_is_integer_within, b_is_integer_within, k_is_integer_within⟩ := ok_is_integer_within (P := P) (w := w) (base := base) T
  obtain ⟨fd_rows_behind, G_rows_behind, b_rows_behind, k_rows_behind⟩ := ok_rows_behind (P := P) (w := w) (base := base) T
  obtain ⟨fd_is_too_great, G_is_too_great, b_is_too_great, k_is_too_great⟩ := ok_is_too_great (P := P) (w := w) (base := base) T
  obtain ⟨fd_Web___init__, G_Web___init__, b_Web___init__, k_Web___init__⟩ := ok_Web___init__ (P := P) (w := w) (base := base) T
  refine F.ok sc_Web_turn (fun vs H Q E h => ?hlen) (fun cdv A outer s H vs Q E hr h => ⟨_, (pss_cons (ps_if (pt_not (pt_val (pe_call G_is_integer_within (hr.mono (by decide)) (by rfl) T.g_is_integer_within k_is_integer_within b_is_integer_within .nil pass0 (pa_cons (pv 1) (pa_cons pe_int (pa_cons (pe_op op_sub (pe_callB call_len_seq (by rfl) T.b_len PySem.boot_len (pa_cons (pe_fld (pv 0) rfl) pa_nil)) pe_int) pa_nil)))))) (pss_one ps_never) pss_nil)
    (pss_cons (ps_set (i := 2) sc_Web_turn.nd rfl (Or.inl rfl) (pe_call G_rows_behind (hr.mono (by decide)) (by rfl) T.g_rows_behind k_rows_behind b_rows_behind .nil pass0 (pa_cons (pe_fld (pv 0) rfl) (pa_cons (pv 1) pa_nil))))
    (pss_cons (ps_if (pt_val (pe_call G_is_too_great (hr.mono (by decide)) (by rfl) T.g_is_too_great k_is_too_great b_is_too_great .nil pass0 (pa_cons (pv 2) pa_nil))) (pss_one ps_never) pss_nil)
    (pss_one (ps_ret (pe_make T.m_Web G_Web___init__ (hr.mono (by decide)) (by rfl) T.g_Web b_Web___init__ .nil pass0 (pa_cons (pv 2) pa_nil))))))), ?hrd⟩)
  case hlen =>
    obtain ⟨s, dx, a, n, f, p, rfl, _⟩ := h
    rfl
  case hrd =>
    obtain ⟨s, dx, a, n, f, p, rfl, hs, hm, h2, h5, hp, hb, sk, hb', sk', q⟩ := h
    obtain ⟨rs, hl, ha, hr⟩ := hm
    have hm : MatAt H a n f := ⟨rs, hl, ha, hr⟩
    have al : (rs.map V.ref).length = n := by rw [List.length_map, hl]
    walk_at "gos"
    refine ⟨s, _, dx, _, _, rfl, hs, T.c_Web, T.na_Web_rows, rfl, ?_⟩
    walk_at "gos"
    refine ⟨_, _, rfl, .inr (SqT.of ha), ?_⟩
    walk_at "gos"
    rw [al]
    refine ⟨_, _, _, rfl, by omega, by omega, ?_⟩
    walk_at "gos"
    refine ⟨s, _, dx, _, _, rfl, hs, T.c_Web, T.na_Web_rows, rfl, ?_⟩
    walk_at "gos"
    refine ⟨a, n, f, p, rfl, hm, hp, by omega, hb, fun r H2 nr e2 hm2 => ?_⟩
    walk_at "gos"
    refine ⟨r, n, mutW f p, rfl, hm2, by omega, by omega, fun b H3 e3 hb3 => ?_⟩
    walk_at "gos"
    refine go_iteNo (by
      cases b with
      | false => rfl
      | true =>
        obtain ⟨i, j, _, _, z⟩ := hb3.mp rfl
        exact absurd (hb' i j) (by omega)) ?_
    walk_at "gos"
    intro x dx' nx nd hne
    have e5 : Ext H3 (upd (upd H3 dx' (.own x)) x (.ins (He.ga K "Web") dx' [])) := (Evl.Ex.new nd).mut nx
    exact ⟨x, dx', r, n, mutW f p, H3, rfl, upd_same, (Evl.Ex.new nd).mut nx, nx, (hm2.ext e3).ext e5, h2, h5, hb', sk', fun H4 e4 h4 => ⟨rfl, q x dx' r H4 ((e2.trans e3).trans e4) h4 ((hm2.ext e3).ext e4)⟩⟩
theorem ok_Web_turn (T : Top w K mg) : OkD P w K mg base 7 (method K "Web" "turn") ["self", "place"] (sp_Web_turn K) := by
  obtain ⟨fd, F⟩ := T.f_Web_turn
  exact ⟨fd, fn_Web_turn T F, F.binds (ps := ["self", "place"]) fun _ _ _ _ _ _ us hl => match us, hl with | [_, _], _ => rfl, F.kp⟩
end
end At

namespace At
open L2 PyProof.Rows PySem.Spec PySem
section
variable {base : Heap} {w : World} {K : PySem.W.Frag} {mg : Str → Option Value} {P : Program}
abbrev N__law_common : List Str := ["_law_row", "_law_sizes_here", "_law_tried", "_law_part", "_law_by"]
theorem sc__law_common : FnScope N__law_common ["_law_row"] (defScope s__law_common) := ⟨rfl, rfl, rfl, by decide +kernel, rfl, by decide +kernel, by decide +kernel⟩
def sp__law_common (K : PySem.W.Frag) : Sp := fun vs H Q _ => ∃ (a : Addr) (xs : List Int), vs = [.ref a] ∧ H a = some (.tup (xs.map .int)) ∧ xs.length ≤ 1000 ∧ (∀ x ∈ xs, nat x ≤ 1000) ∧ ∀ H', Ext H H' → Q (.int (gcdL xs)) H'
theorem fn__law_common (T : Top w K mg) {fd : FuncData} (F : Fun K "_law_common" "_law_common" s__law_common (He.ga K "_law_common") fd) : FnOk P w K mg base CX0 1 (He.ga K "_law_common") fd ["_law_row"] (sp__law_common K) := by
  refine F.ok sc__law_common (fun vs H Q E h => ?hlen) (fun cdv A outer s H vs Q E hr h => ⟨_, (pss_cons (ps_set (i := 1) sc__law_common.nd rfl (Or.inr rfl) (pe_lc (own := [("_law_part", 3)]) (g := gName 3)  (by rfl) sc__law_common.nd (pi_tup (pv 0)) (blkOk_by (own := [("_law_part", 3)]) (N := N__law_common) (sc := defScope s__law_common) (by decide +kernel)) (fun _ _ _ _ _ => pg_name (i := 3) sc__law_common.nd rfl (by first | exact Or.inl rfl | exact Or.inr rfl)) (fun _ _ _ _ _ => (pts_one (pt_cmpR op_ne (pv 3) pe_int (nomark _)))) (fun _ _ _ _ _ => (pe_callB call_abs (by rfl) T.b_abs (by decide +kernel) (pa_cons (pv 3) pa_nil)))))
    (pss_cons (ps_if (pt_cmpR (op_eqD (hu64 hr)) (pv 1) (pe_lst pa_nil) (nomark _)) (pss_one (ps_ret pe_int)) pss_nil)
    (pss_cons (ps_setLc (i := 2) (own := [("_law_by", 4)]) (g := gName 4)  (by rfl) sc__law_common.nd rfl rfl (sw_true rfl rfl rfl (by decide +kernel)) (pi_range2 (by rfl) T.b_range (pa_cons pe_int (pa_cons (pe_op op_add (pe_callB (cr_min rfl) (by rfl) T.b_min (by decide +kernel) (pa_cons (pv 1) pa_nil)) pe_int) pa_nil))) (blkOk_by (own := [("_law_by", 4)]) (N := N__law_common) (sc := defScope s__law_common) (by decide +kernel)) (fun _ _ _ _ _ => pg_name (i := 4) sc__law_common.nd rfl (by first | exact Or.inl rfl | exact Or.inr rfl)) (fun _ _ _ _ _ => (pts_one (pt_val (pe_callB (At.cr_allK (K := K) rfl rfl) (by rfl) T.b_all (by decide +kernel) (pa_cons (pe_lc (own := [("_law_part", 3)]) (g := gName 3) (tt := tYes) (by rfl) sc__law_common.nd (At.pi_listK (K := K) rfl (pv 1)) (blkOk_by (own := [("_law_part", 3)]) (by rfl)) (fun _ _ _ _ _ => pg_name (i := 3) sc__law_common.nd rfl (by first | exact Or.inl rfl | exact Or.inr rfl)) (fun _ _ _ _ _ => pts_nil) (fun _ _ _ _ _ => (pe_cmpR op_eq (pe_op op_modN (pe_callTy call_int1 (by rfl) T.b_int (by decide +kernel) (pa_cons (pv 3) pa_nil)) (pv 4)) pe_int (nomark _)))) pa_nil))))) (fun _ _ _ _ _ => (pv 4)))
    (pss_one (ps_ret (pe_callB (cr_max rfl) (by rfl) T.b_max (by decide +kernel) (pa_cons (pv 2) pa_nil))))))), ?hrd⟩)
  case hlen =>
    obtain ⟨a, xs, rfl, _⟩ := h
    rfl
  case hrd =>
    obtain ⟨a, xs, rfl, ha, hl, hb, q⟩ := h
    walk_at "gos"
    refine go_lcT ?_
    walk_at "gos"
    refine ⟨⟨_, SqT.of ha⟩, fun D nD => ?_⟩
    refine lc_it (walk_tup (xs := xs.map V.int)) (fun i H' => Ext H H' ∧ H' D = some (.lst ((sizesL (xs.take i)).map .int))) ⟨Evl.Ex.new nD, upd_same⟩ (fun i H' _ pv => SqT.of (pv.1 _ _ ha)) (fun i x H' H'' hi pv y => ?_) fun H' pv => ?_
    · obtain ⟨e, hD⟩ := pv
      obtain ⟨rfl, hx⟩ := y
      rw [List.getElem?_map] at hx
      obtain ⟨v, hv, rfl⟩ := Option.map_eq_some_iff.mp hx
      walk_at "gos"
      refine ⟨rfl, ?_⟩
      walk_at "gos"
      have tk : xs.take (i + 1) = xs.take i ++ [v] := by rw [List.take_add_one, hv]; rfl
      refine go_iteN (fun c => ?_) (fun c => ?_)
      · walk_at "gos"
        refine ⟨_, hD, ?_, e.mut nD, ?_⟩
        · rw [List.length_map, sizeLine_eq]
          have := List.length_filter_le (fun x => decide (x ≠ 0)) (xs.take i)
          rw [List.length_take] at this
          unfold sizesL
          rw [List.length_map]
          omega
        · rw [upd_same, tk]
          unfold sizesL
          rw [List.filter_append, List.filter_cons_of_pos (by exact decide_eq_true c), List.filter_nil, List.map_append, List.map_append]
          rfl
      · refine ⟨e, ?_⟩
        rw [hD, tk]
        unfold sizesL
        rw [List.filter_append, List.filter_cons_of_neg (by simp [c]), List.filter_nil, List.append_nil]
    · obtain ⟨e, hD⟩ := pv
      rw [List.length_map, List.take_length] at hD
      walk_at "gos"
      intro l0 nl0
      have hD1 := mem_new (u := .lst []) nl0 hD
      refine go_eqL (ns := sizesL xs) (ms := []) (SqL.of hD1) (SqL.of upd_same) ?_
      walk_at "gos"
      have e1 := ext_new (o := .lst []) e nl0
      generalize upd H' l0 (.lst []) = H1 at hD1 e1 ⊢
      refine go_ite (fun c => ?_) (fun c => ?_)
      · walk_at "gos"
        have := q H1 e1
        rw [gcdL_none c] at this
        exact this
      obtain ⟨s0, ss, hss⟩ : ∃ s0 ss, sizesL xs = s0 :: ss := by
        cases h : sizesL xs with
        | nil => exact absurd h c
        | cons s0 ss => exact ⟨s0, ss, rfl⟩
      have few : ∀ s ∈ sizesL xs, 0 < s ∧ s ≤ 1000 := fun s hs => ⟨sizesL_pos hs, by
        obtain ⟨x, hx, _, rfl⟩ := mem_sizesL.mp hs
        exact hb x hx⟩
      walk_at "gos"
      refine go_lcT ?_
      walk_at "gos"
      refine ⟨_, sizesL xs, rfl, SqL.of hD1, by rw [hss]; exact Nat.succ_pos _, fun mn hmn hmin => ?_⟩
      walk_at "gos"
      have b1 := few mn hmn
      refine ⟨⟨by decide, by decide, by omega, by omega⟩, fun D2 nD2 => ?_⟩
      refine lc_it (walk_range (lo := 1)) (fun i H' => ∃ ms : List Int, (∀ m, m ∈ ms ↔ (1 ≤ m ∧ m ≤ (i : Int) ∧ ∀ s ∈ sizesL xs, m ∣ s)) ∧ ms.length ≤ i ∧ Ext H1 H' ∧ H' D2 = some (.lst (ms.map .int))) ⟨[], fun m => ⟨fun z => (by cases z), fun z => absurd z.1 (by omega)⟩, Nat.le_refl _, Evl.Ex.new nD2, upd_same⟩ (fun _ _ _ _ => trivial) (fun i x H' H'' hi pv y => ?_) fun H' pv => ?_
      · obtain ⟨ms, hms, hml, e2, hD2⟩ := pv
        obtain ⟨rfl, rfl⟩ := y
        have i1 : (i : Int) < mn := by omega
        have hD3 := e2 _ _ hD1
        walk_at "gos"
        refine ⟨rfl, ?_⟩
        walk_at "gos"
        refine go_lc ?_
        walk_at "gos"
        refine ⟨⟨_, SqL.of hD3⟩, ?_⟩
        have fewL : (sizesL xs).length ≤ 1000 := by
          unfold sizesL
          rw [List.length_map]
          exact Nat.le_trans (List.length_filter_le _ _) hl
        refine lc_lstP hD3 (by rw [List.length_map]; omega) (fun x => match x with
          | .int z => .bl (decide (z.fmod (1 + (i : Int)) = 0))
          | v => v) (fun D3 nD3 x H4 hx e4 QE hq => ?_) fun D3 nD3 H4 e4 hD4 => ?_
        · obtain ⟨z, hz, rfl⟩ := List.mem_map.mp hx
          walk_at "gos"
          refine ⟨rfl, ?_⟩
          walk_at "gos"
          refine .inl ⟨_, rfl, ?_⟩
          walk_at "gos"
          exact hq _ (Evl.Ex.refl _)
        · have dv : ∀ z : Int, (z.fmod (1 + (i : Int)) = 0) ↔ (1 + (i : Int)) ∣ z := fun z => by
            (rw [Int.fmod_eq_emod_of_nonneg _ (by omega)])
            exact Int.dvd_iff_emod_eq_zero.symm
          have hall : ((sizesL xs).map fun z => decide (z.fmod (1 + (i : Int)) = 0)).all id = decide (∀ z ∈ sizesL xs, (1 + (i : Int)) ∣ z) := by
            rw [List.all_map, eq_comm, Bool.eq_iff_iff]
            simp only [decide_eq_true_eq, List.all_eq_true, Function.comp, id, dv]
          walk_at "gos"
          refine ⟨D3, (sizesL xs).map fun z => decide (z.fmod (1 + (i : Int)) = 0), rfl, SqL.of (by rw [hD4, List.map_map, List.map_map]; rfl), ?_⟩
          rw [hall]
          walk_at "gos"
          have hD5 := e4 _ _ hD2
          refine go_ite (fun c => ?_) (fun c => ?_)
          · walk_at "gos"
            refine ⟨_, hD5, by rw [List.length_map, sizeLine_eq]; omega, ms ++ [1 + (i : Int)], fun m => ?_, by rw [List.length_append]; exact Nat.add_le_add_right hml 1, (e2.trans e4).mut nD2, by rw [upd_same, List.map_append]; rfl⟩
            rw [List.mem_append, hms, List.mem_singleton]
            constructor
            · rintro (⟨z1, z2, z3⟩ | rfl)
              · exact ⟨z1, by omega, z3⟩
              · exact ⟨by omega, by omega, c⟩
            · rintro ⟨z1, z2, z3⟩
              by_cases em : m = 1 + (i : Int)
              · exact .inr em
              · exact .inl ⟨z1, by omega, z3⟩
          · refine ⟨ms, fun m => ?_, by omega, e2.trans e4, hD5⟩
            rw [hms]
            constructor
            · rintro ⟨z1, z2, z3⟩
              exact ⟨z1, by omega, z3⟩
            · rintro ⟨z1, z2, z3⟩
              by_cases em : m = 1 + (i : Int)
              · exact absurd (em ▸ z3) c
              · exact ⟨z1, by omega, z3⟩
      · obtain ⟨ms, hms, hml, e2, hD2⟩ := pv
        have top : (((mn + 1 - 1).toNat : Nat) : Int) = mn := by omega
        rw [top] at hms
        walk_at "gos"
        refine ⟨D2, ms, rfl, SqL.of hD2, List.length_pos_of_mem ((hms 1).mpr ⟨by omega, by omega, fun _ _ => Int.one_dvd _⟩), fun m hm hmax => ?_⟩
        obtain ⟨m1, m2, m3⟩ := (hms m).mp hm
        have := gcdL_most hmn ⟨m1, m3⟩ fun k k1 k2 k3 => hmax k ((hms k).mpr ⟨k1, k2, k3⟩)
        rw [this]
        exact q _ (e1.trans e2)
theorem ok__law_common (T : Top w K mg) : OkD P w K mg base 1 (He.ga K "_law_common") ["_law_row"] (sp__law_common K) := by
  obtain ⟨fd, F⟩ := T.f__law_common
  exact ⟨fd, fn__law_common T F, F.binds (ps := ["_law_row"]) fun _ _ _ _ _ _ us hl => match us, hl with | [_], _ => rfl, F.kp⟩
end
end At

namespace At
open L2 PyProof.Rows PySem.Spec PySem
section
variable {base : Heap} {w : World} {K : PySem.W.Frag} {mg : Str → Option Value} {P : Program}
abbrev N__law_rows_behind : List Str := ["_law_rows_here", "_law_spot", "_law_many", "_law_found", "_law_k", "_law_j", "_law_come", "_law_go", "_law_row"]
theorem sc__law_rows_behind : FnScope N__law_rows_behind ["_law_rows_here", "_law_spot"] (defScope s__law_rows_behind) := ⟨rfl, rfl, rfl, by decide +kernel, rfl, by decide +kernel, by decide +kernel⟩
def sp__law_rows_behind (K : PySem.W.Frag) : Sp := fun vs H Q _ => ∃ a n f, ∃ p : Nat, vs = [.ref a, .int p] ∧ MatAt H a n f ∧ p < n ∧ n ≤ 1000 ∧ (∀ i j, nat (f i j) ≤ WEB) ∧ ∀ r H', Ext H H' → MatAt H' r n (mutW f p) → Q (.ref r) H'
theorem fn__law_rows_behind (T : Top w K mg) {fd : FuncData} (F : Fun K "_law_rows_behind" "_law_rows_behind" s__law_rows_behind (He.ga K "_law_rows_behind") fd) : FnOk P w K mg base CX0 1 (He.ga K "_law_rows_behind") fd ["_law_rows_here", "_law_spot"] (sp__law_rows_behind K) := by
  refine F.ok sc__law_rows_behind (fun vs H Q E h => ?hlen) (fun cdv A outer s H vs Q E hr h => ⟨_, (pss_cons (ps_par (i := 2) (j := 3) (by rfl) sc__law_rows_behind.nd rfl rfl (by decide) rfl rfl (pa_cons (pe_callB call_len_seq (by rfl) T.b_len PySem.boot_len (pa_cons (pv 0) pa_nil)) (pa_cons (pe_lc (own := [("_law_row", 8)]) (g := gName 8) (tt := tYes) (by rfl) sc__law_rows_behind.nd (pi_tup (pv 0)) (blkOk_by (own := [("_law_row", 8)]) (N := N__law_rows_behind) (sc := defScope s__law_rows_behind) (by decide +kernel)) (fun _ _ _ _ _ => pg_name (i := 8) sc__law_rows_behind.nd rfl (by first | exact Or.inl rfl | exact Or.inr rfl)) (fun _ _ _ _ _ => pts_nil) (fun _ _ _ _ _ => (pe_callTy (At.call_lstK (K := K) rfl) (by rfl) T.b_list (by decide +kernel) (pa_cons (pv 8) pa_nil)))) pa_nil)) (by rfl))
    (pss_cons (ps_for PassesOwn.never rfl (pi_range1 (by rfl) T.b_range (pa_cons (pv 2) pa_nil)) (pg_name (i := 4) sc__law_rows_behind.nd rfl (Or.inl rfl)) (pss_one (ps_for PassesOwn.never rfl (pi_range1 (by rfl) T.b_range (pa_cons (pv 2) pa_nil)) (pg_name (i := 5) sc__law_rows_behind.nd rfl (Or.inl rfl)) (pss_cons (ps_par (i := 6) (j := 7) (by rfl) sc__law_rows_behind.nd rfl rfl (by decide) rfl rfl (pa_cons (pe_ix ix_tup (pe_ix ix_tup (pv 0) (pv 4) (fun _ _ => rfl)) (pv 1) (fun _ _ => rfl)) (pa_cons (pe_ix ix_tup (pe_ix ix_tup (pv 0) (pv 1) (fun _ _ => rfl)) (pv 5) (fun _ _ => rfl)) pa_nil)) (by rfl))
    (pss_one (ps_if (PW.pt (pw_or (pt_cmpR op_eq (pv 4) (pv 1) (nomark _)) (pw_or1 (pt_cmpR op_eq (pv 5) (pv 1) (nomark _))))) (pss_one (ps_asg (pe_un un_neg (pe_ix ix_tup (pe_ix ix_tup (pv 0) (pv 4) (fun _ _ => rfl)) (pv 5) (fun _ _ => rfl))) (pg_sub (pe_ix ix_list (pv 3) (pv 4) (fun _ _ => rfl)) (pv 5) set_list))) (pss_one (ps_if (PW.pt (pw_and (pt_cmpR op_gt (pv 6) pe_int (nomark _)) (pw_and1 (pt_cmpR op_gt (pv 7) pe_int (nomark _))))) (pss_one (ps_asg (pe_op op_add (pe_ix ix_tup (pe_ix ix_tup (pv 0) (pv 4) (fun _ _ => rfl)) (pv 5) (fun _ _ => rfl)) (pe_op op_mulW (pv 6) (pv 7))) (pg_sub (pe_ix ix_list (pv 3) (pv 4) (fun _ _ => rfl)) (pv 5) set_list))) (pss_one (ps_if (PW.pt (pw_and (pt_cmpR op_lt (pv 6) pe_int (nomark _)) (pw_and1 (pt_cmpR op_lt (pv 7) pe_int (nomark _))))) (pss_one (ps_asg (pe_op op_sub (pe_ix ix_tup (pe_ix ix_tup (pv 0) (pv 4) (fun _ _ => rfl)) (pv 5) (fun _ _ => rfl)) (pe_op op_mulW (pv 6) (pv 7))) (pg_sub (pe_ix ix_list (pv 3) (pv 4) (fun _ _ => rfl)) (pv 5) set_list))) pss_nil))))))))))
    (pss_one (ps_ret (pe_callTy call_tuple_of (by rfl) T.b_tuple (by decide +kernel) (pa_cons (pe_lc (own := [("_law_row", 8)]) (g := gName 8) (tt := tYes) (by rfl) sc__law_rows_behind.nd (pi_list (pv 3)) (blkOk_by (own := [("_law_row", 8)]) (N := N__law_rows_behind) (sc := defScope s__law_rows_behind) (by decide +kernel)) (fun _ _ _ _ _ => pg_name (i := 8) sc__law_rows_behind.nd rfl (by first | exact Or.inl rfl | exact Or.inr rfl)) (fun _ _ _ _ _ => pts_nil) (fun _ _ _ _ _ => (pe_callTy (At.call_tupK (K := K) rfl) (by rfl) T.b_tuple (by decide +kernel) (pa_cons (pv 8) pa_nil)))) pa_nil)))))), ?hrd⟩)
  case hlen =>
    obtain ⟨a, n, f, p, rfl, _⟩ := h
    rfl
  case hrd =>
    obtain ⟨a, n, f, p, rfl, hm, hp, hn, hb, q⟩ := h
    obtain ⟨rs, hl, ha, hr⟩ := hm
    have al : (rs.map V.ref).length = n := by rw [List.length_map, hl]
    walk_at "gos"
    refine ⟨_, _, rfl, .inr (SqT.of ha), ?_⟩
    rw [al]
    walk_at "gos"
    refine go_lc ?_
    walk_at "gos"
    refine ⟨⟨_, SqT.of ha⟩, ?_⟩
    intro D nD
    refine lc_it (walk_tup (xs := rs.map V.ref)) (fun i H' => ∃ ls : List Addr, ls.length = i ∧ Ext H H' ∧ H' D = some (.lst (ls.map .ref)) ∧ ls.Nodup ∧ ∀ k l, ls[k]? = some l → l ≠ D ∧ H l = none ∧ H' l = some (.lst ((rowOf n f k).map .int))) ⟨[], rfl, Evl.Ex.new nD, upd_same, List.nodup_nil, fun k l z => by cases z⟩ (fun i H' _ pv => by
      obtain ⟨_, _, e, _⟩ := pv
      exact SqT.of (e _ _ ha)) (fun i x H' H'' hi pv y => ?_) fun H' pv => ?_
    · obtain ⟨ls, hml, e, hD, nod, each⟩ := pv
      obtain ⟨rfl, hx⟩ := y
      rw [List.getElem?_map] at hx
      obtain ⟨r, hri, rfl⟩ := Option.map_eq_some_iff.mp hx
      have hr1 := e _ _ (hr i r hri)
      walk_at "gos"
      refine ⟨rfl, ?_⟩
      refine go_yes ?_
      walk_at "gos"
      refine ⟨r, _, rfl, .inr (SqT.of hr1), fun t nt => ?_⟩
      have tD : t ≠ D := fun z => by rw [z, hD] at nt; cases nt
      have t0 : H t = none := Evl.fresh_back e nt
      have e2 : Ext H (upd H'' t (.lst ((rowOf n f i).map .int))) := ext_new e nt
      refine ⟨_, mem_new nt hD, by rw [List.length_map, hml, sizeLine_eq]; rw [al] at hi; omega, ls ++ [t], by rw [List.length_append, hml]; rfl, e2.mut nD, by rw [upd_same, List.map_append]; rfl, ?_, fun k l hk => ?_⟩
      · rw [List.nodup_append]
        refine ⟨nod, by simp, fun l hl' b hb => ?_⟩
        obtain ⟨k, hk⟩ := List.mem_iff_getElem?.mp hl'
        obtain ⟨_, _, z⟩ := each k l hk
        rw [List.mem_singleton.mp hb]
        intro z2
        rw [z2, nt] at z
        cases z
      · rcases Nat.lt_trichotomy k ls.length with c | c | c
        · rw [List.getElem?_append_left c] at hk
          obtain ⟨z1, z2, z3⟩ := each k l hk
          exact ⟨z1, z2, by rw [upd_ne z1]; exact mem_new nt z3⟩
        · subst c
          rw [List.getElem?_append_right (Nat.le_refl _), Nat.sub_self] at hk
          cases Option.some.inj hk
          exact ⟨tD, t0, by rw [upd_ne tD, upd_same, hml]⟩
        · rw [List.getElem?_eq_none (by rw [List.length_append]; exact c)] at hk
          cases hk
    · obtain ⟨ls, hml, e, hD, nod, each⟩ := pv
      rw [al] at hml
      have tab : TabAt H H' D n f := ⟨ls, hml, nD, hD, nod, each⟩
      walk_at "gos"
      refine And.intro (by omega) (And.intro (by omega) ?_)
      obtain ⟨e0, _⟩ : Ext H H' ∧ True := ⟨by assumption, trivial⟩
      refine loop_range (fun i σ' H2 => ∃ y4 y5 y6 y7 y8, σ' = [some (.ref a), some (.int p), some (.int n), some (.ref D), y4, y5, y6, y7, y8] ∧ Ext H H2 ∧ TabAt H H2 D n (fun i' j' => if i' < i then mutW f p i' j' else f i' j')) ⟨_, _, _, _, _, rfl, e, by simpa using tab⟩ ?_ ?_
      · rintro i σ' H2 hi ⟨y4, y5, y6, y7, y8, rfl, e2, tab2⟩
        walk_at "gos"
        refine And.intro (by omega) (And.intro (by omega) ?_)
        refine loop_range (fun j σ' H3 => ∃ y5 y6 y7 y8, σ' = [some (.ref a), some (.int p), some (.int n), some (.ref D), some (.int (i : Int)), y5, y6, y7, y8] ∧ Ext H H3 ∧ TabAt H H3 D n (fun i' j' => if i' < i ∨ (i' = i ∧ j' < j) then mutW f p i' j' else f i' j')) ⟨y5, y6, y7, y8, by simp, e2, by simpa using tab2⟩ ?_ ?_
        · rintro j σ' H3 hj ⟨y5, y6, y7, y8, rfl, e3, tab3⟩
          simp only [Int.zero_add]
          have hiN : i < n := by omega
          have hjN : j < n := by omega
          obtain ⟨xs, ri, haA, hxi, hri⟩ := MatAt.row ⟨rs, hl, ha, hr⟩ hiN
          obtain ⟨xs', rp, haB, hxp, hrp⟩ := MatAt.row ⟨rs, hl, ha, hr⟩ hp
          cases Option.some.inj (haA.symm.trans haB)
          have ha3 := e3 _ _ haA
          have hri3 := e3 _ _ hri
          have hrp3 := e3 _ _ hrp
          obtain ⟨ys, l, hD3, hyl, l0, hl3, new⟩ := tab3.set hiN (j := j) (mutW f p i j)
          have nx : TabAt H (upd H3 l (.lst (((rowOf n (fun i' j' => if i' < i ∨ (i' = i ∧ j' < j) then mutW f p i' j' else f i' j') i).map V.int).set j (.int (mutW f p i j))))) D n (fun i' j' => if i' < i ∨ (i' = i ∧ j' < j + 1) then mutW f p i' j' else f i' j') := by
            refine Eq.mp (congrArg (fun g => TabAt H _ D n g) ?_) new
            funext x y
            unfold setW
            by_cases c : x = i ∧ y = j
            · rw [if_pos c, if_pos (by omega), c.1, c.2]
            · rw [if_neg c]
              dsimp only
              by_cases c2 : x < i ∨ (x = i ∧ y < j)
              · rw [if_pos c2, if_pos (by omega)]
              · rw [if_neg c2, if_neg (by omega)]
          have bd : CMulW (f i p) (f p j) := mul_ok (B := MID) (by decide +kernel) (Int.le_trans (hb i p) (by decide +kernel)) (Int.le_trans (hb p j) (by decide +kernel))
          walk_at "gos"
          refine go_rIxT (j := i) (SqT.of ha3) (atI_nat hxi) ?_
          walk_at "gos"
          refine go_rIxT (j := p) (SqT.of hri3) (atI_nat (rowOf_at hp)) ?_
          walk_at "gos"
          refine go_rIxT (j := p) (SqT.of ha3) (atI_nat hxp) ?_
          walk_at "gos"
          refine go_rIxT (j := j) (SqT.of hrp3) (atI_nat (rowOf_at hjN)) ?_
          walk_at "gos"
          have ll : ((rowOf n (fun i' j' => if i' < i ∨ (i' = i ∧ j' < j) then mutW f p i' j' else f i' j') i).map V.int).length = n := by simp [rowOf]
          have fin : ∀ (v : Int) (y6 y7 y8 : Option V), mutW f p i j = v → ∃ y5 a6 a7 a8, ([some (V.ref a), some (V.int p), some (V.int n), some (V.ref D), some (V.int (i : Int)), some (V.int (j : Int)), y6, y7, y8] : List (Option V)) = [some (V.ref a), some (V.int p), some (V.int n), some (V.ref D), some (V.int (i : Int)), y5, a6, a7, a8] ∧ Ext H (upd H3 l (.lst (((rowOf n (fun i' j' => if i' < i ∨ (i' = i ∧ j' < j) then mutW f p i' j' else f i' j') i).map V.int).set j (.int v)))) ∧ TabAt H (upd H3 l (.lst (((rowOf n (fun i' j' => if i' < i ∨ (i' = i ∧ j' < j) then mutW f p i' j' else f i' j') i).map V.int).set j (.int v)))) D n (fun i' j' => if i' < i ∨ (i' = i ∧ j' < j + 1) then mutW f p i' j' else f i' j') := fun v y6 y7 y8 hv => by
            subst hv
            exact ⟨_, _, _, _, rfl, e3.mut l0, nx⟩
          have same : ∀ (y6 y7 y8 : Option V), mutW f p i j = f i j → ∃ y5 a6 a7 a8, ([some (V.ref a), some (V.int p), some (V.int n), some (V.ref D), some (V.int (i : Int)), some (V.int (j : Int)), y6, y7, y8] : List (Option V)) = [some (V.ref a), some (V.int p), some (V.int n), some (V.ref D), some (V.int (i : Int)), y5, a6, a7, a8] ∧ Ext H H3 ∧ TabAt H H3 D n (fun i' j' => if i' < i ∨ (i' = i ∧ j' < j + 1) then mutW f p i' j' else f i' j') := fun y6 y7 y8 hv => by
            refine ⟨_, _, _, _, rfl, e3, Eq.mp (congrArg (fun g => TabAt H H3 D n g) ?_) tab3⟩
            funext x y
            by_cases c : x = i ∧ y = j
            · rw [if_neg (by omega), if_pos (by omega), c.1, c.2, hv]
            · by_cases c2 : x < i ∨ (x = i ∧ y < j)
              · rw [if_pos c2, if_pos (by omega)]
              · rw [if_neg c2, if_neg (by omega)]
          refine go_ite (fun c1 => ?_) (fun c1 => ?_)
          · walk_at "gos"
            refine go_rIxT (j := i) (SqT.of ha3) (atI_nat hxi) ?_
            walk_at "gos"
            refine go_rIxT (j := j) (SqT.of hri3) (atI_nat (rowOf_at hjN)) ?_
            walk_at "gos"
            refine go_rIxL (j := i) (SqL.of hD3) (atI_nat hyl) ?_
            walk_at "gos"
            refine go_rSetL hl3 (ixN_nat (by rw [ll]; exact hjN)) ?_
            exact fin _ _ _ _ (by rw [mutW, if_pos (by omega)])
          walk_at "gos"
          refine go_ite (fun c2 => ?_) (fun c2 => ?_)
          · walk_at "gos"
            refine go_rIxT (j := i) (SqT.of ha3) (atI_nat hxi) ?_
            walk_at "gos"
            refine go_rIxT (j := j) (SqT.of hri3) (atI_nat (rowOf_at hjN)) ?_
            walk_at "gos"
            refine go_rIxL (j := i) (SqL.of hD3) (atI_nat hyl) ?_
            walk_at "gos"
            refine go_rSetL hl3 (ixN_nat (by rw [ll]; exact hjN)) ?_
            exact fin _ _ _ _ (by rw [mutW, if_pos (by omega)])
          walk_at "gos"
          refine go_ite (fun c3 => ?_) (fun c3 => ?_)
          · walk_at "gos"
            refine go_ite (fun c4 => ?_) (fun c4 => ?_)
            · walk_at "gos"
              refine go_rIxT (j := i) (SqT.of ha3) (atI_nat hxi) ?_
              walk_at "gos"
              refine go_rIxT (j := j) (SqT.of hri3) (atI_nat (rowOf_at hjN)) ?_
              walk_at "gos"
              refine go_rIxL (j := i) (SqL.of hD3) (atI_nat hyl) ?_
              walk_at "gos"
              refine go_rSetL hl3 (ixN_nat (by rw [ll]; exact hjN)) ?_
              exact fin _ _ _ _ (by rw [mutW, if_neg (by omega), if_pos ⟨c3, c4⟩])
            · walk_at "gos"
              refine go_ite (fun z => absurd z (by omega)) (fun _ => ?_)
              walk_at "gos"
              exact same _ _ _ (by rw [mutW, if_neg (by omega), if_neg (by omega), if_neg (by omega)])
          · walk_at "gos"
            refine go_ite (fun c5 => ?_) (fun c5 => ?_)
            · walk_at "gos"
              refine go_ite (fun c6 => ?_) (fun c6 => ?_)
              · walk_at "gos"
                refine go_rIxT (j := i) (SqT.of ha3) (atI_nat hxi) ?_
                walk_at "gos"
                refine go_rIxT (j := j) (SqT.of hri3) (atI_nat (rowOf_at hjN)) ?_
                walk_at "gos"
                refine go_rIxL (j := i) (SqL.of hD3) (atI_nat hyl) ?_
                walk_at "gos"
                refine go_rSetL hl3 (ixN_nat (by rw [ll]; exact hjN)) ?_
                exact fin _ _ _ _ (by rw [mutW, if_neg (by omega), if_neg (by omega), if_pos ⟨c5, c6⟩])
              · walk_at "gos"
                exact same _ _ _ (by rw [mutW, if_neg (by omega), if_neg (by omega), if_neg (by omega)])
            · walk_at "gos"
              exact same _ _ _ (by rw [mutW, if_neg (by omega), if_neg (by omega), if_neg (by omega)])
        · rintro σ' H3 ⟨y5, y6, y7, y8, rfl, e3, tab3⟩
          exact ⟨_, _, _, _, _, rfl, e3, tab3.congr fun x y hx hy => by
            by_cases c : x < i + 1
            · rw [if_pos (by omega), if_pos c]
            · rw [if_neg (by omega), if_neg c]⟩
      · rintro σ' H2 ⟨y4, y5, y6, y7, y8, rfl, e2, tab2⟩
        have tabN : TabAt H H2 D n (mutW f p) := tab2.congr fun x y hx hy => if_pos (by omega)
        obtain ⟨ks, k1, k2, k3, k4, k5⟩ := tabN
        have kl : (ks.map V.ref).length = n := by rw [List.length_map, k1]
        walk_at "gos"
        refine go_lc ?_
        walk_at "gos"
        refine ⟨⟨_, SqL.of k3⟩, ?_⟩
        intro D2 nD2
        have d20 : H D2 = none := Evl.fresh_back e2 nD2
        refine lc_it (walk_list (xs := ks.map V.ref)) (fun i H' => ∃ rs2 : List Addr, rs2.length = i ∧ Ext H2 H' ∧ H' D2 = some (.lst (rs2.map .ref)) ∧ ∀ k r, rs2[k]? = some r → H' r = some (.tup ((rowOf n (mutW f p) k).map .int))) ⟨[], rfl, Evl.Ex.new nD2, upd_same, fun k r z => by cases z⟩ (fun i H' _ pv => by
          obtain ⟨_, _, e, _⟩ := pv
          exact SqL.of (e _ _ k3)) (fun i x H' H'' hi pv y => ?_) fun H' pv => ?_
        · obtain ⟨rs2, hml, e3, hD2, each2⟩ := pv
          obtain ⟨rfl, hx⟩ := y
          rw [List.getElem?_map] at hx
          obtain ⟨l, hli, rfl⟩ := Option.map_eq_some_iff.mp hx
          obtain ⟨_, _, z3⟩ := k5 i l hli
          have hl1 := e3 _ _ z3
          walk_at "gos"
          refine ⟨rfl, ?_⟩
          refine go_yes ?_
          walk_at "gos"
          refine ⟨l, _, rfl, .inl ⟨SqL.of hl1, fun t nt => ?_⟩⟩
          have e4 := ext_new (o := .tup ((rowOf n (mutW f p) i).map .int)) e3 nt
          refine ⟨_, mem_new nt hD2, by rw [List.length_map, hml, sizeLine_eq]; rw [kl] at hi; omega, rs2 ++ [t], by rw [List.length_append, hml]; rfl, e4.mut nD2, by rw [upd_same, List.map_append]; rfl, fun k r hk => ?_⟩
          have all4 : upd H'' t (.tup ((rowOf n (mutW f p) i).map .int)) r = some (.tup ((rowOf n (mutW f p) k).map .int)) := by
            rcases Nat.lt_trichotomy k rs2.length with c | c | c
            · rw [List.getElem?_append_left c] at hk
              exact mem_new nt (each2 k r hk)
            · subst c
              rw [List.getElem?_append_right (Nat.le_refl _), Nat.sub_self] at hk
              cases Option.some.inj hk
              rw [upd_same, hml]
            · rw [List.getElem?_eq_none (by rw [List.length_append]; exact c)] at hk
              cases hk
          rw [upd_ne (fun z => by rw [z, mem_new nt hD2] at all4; cases all4)]
          exact all4
        · obtain ⟨rs2, hml, e3, hD2, each2⟩ := pv
          rw [kl] at hml
          walk_at "gos"
          refine ⟨D2, _, rfl, .inl ⟨SqL.of hD2, fun t nt => q t _ (ext_new (e2.trans e3) nt) ⟨rs2, hml, upd_same, fun k r z => mem_new nt (each2 k r z)⟩⟩⟩
theorem ok__law_rows_behind (T : Top w K mg) : OkD P w K mg base 1 (He.ga K "_law_rows_behind") ["_law_rows_here", "_law_spot"] (sp__law_rows_behind K) := by
  obtain ⟨fd, F⟩ := T.f__law_rows_behind
  exact ⟨fd, fn__law_rows_behind T F, F.binds (ps := ["_law_rows_here", "_law_spot"]) fun _ _ _ _ _ _ us hl => match us, hl with | [_, _], _ => rfl, F.kp⟩
end
end At

namespace At
open L2 PyProof.Rows PySem.Spec PySem
section
variable {base : Heap} {w : World} {K : PySem.W.Frag} {mg : Str → Option Value} {P : Program}
abbrev N_Web_rows : List Str := ["self"]
theorem sc_Web_rows : FnScope N_Web_rows ["self"] (defScope s_Web_rows) := ⟨rfl, rfl, rfl, by decide +kernel, rfl, by decide +kernel, by decide +kernel⟩
def sp_Web_rows (K : PySem.W.Frag) : Sp := fun vs H Q _ => ∃ s dx n, vs = [.ref s] ∧ H s = some (.ins (He.ga K "Web") dx [("_rows", .ref n)]) ∧ Q (.ref n) H
theorem fn_Web_rows (T : Top w K mg) {fd : FuncData} (F : Fun K "rows" "Web.rows" s_Web_rows (getter K "Web" "rows") fd) : FnOk P w K mg base CX0 1 (getter K "Web" "rows") fd ["self"] (sp_Web_rows K) := by
  refine F.ok sc_Web_rows (fun vs H Q E h => ?hlen) (fun cdv A outer s H vs Q E hr h => ⟨_, (pss_one (ps_ret (pe_fld (pv 0) rfl))), ?hrd⟩)
  case hlen =>
    obtain ⟨s, dx, n, rfl, _⟩ := h
    rfl
  case hrd =>
    obtain ⟨s, dx, n, rfl, hs, q⟩ := h
    walk_at "gos"
    exact ⟨s, _, dx, _, _, rfl, hs, T.c_Web, T.na_Web_rows, rfl, q⟩
theorem ok_Web_rows (T : Top w K mg) : OkD P w K mg base 1 (getter K "Web" "rows") ["self"] (sp_Web_rows K) := by
  obtain ⟨fd, F⟩ := T.f_Web_rows
  exact ⟨fd, fn_Web_rows T F, F.binds (ps := ["self"]) fun _ _ _ _ _ _ us hl => match us, hl with | [_], _ => rfl, F.kp⟩
end
end At

namespace At
open L2 PyProof.Rows PySem.Spec PySem
section
variable {base : Heap} {w : World} {K : PySem.W.Frag} {mg : Str → Option Value} {P : Program}
abbrev N__law_case_right : List Str := ["_law_purse_here", "_law_turn", "_law_rows_here", "_law_thing", "_law_due", "_law_again", "_law_spot", "_law_zeros", "_law_row"]
theorem sc__law_case_right : FnScope N__law_case_right ["_law_purse_here"] (defScope s__law_case_right) := ⟨rfl, rfl, rfl, by decide +kernel, rfl, by decide +kernel, by decide +kernel⟩
def sp__law_case_right (K : PySem.W.Frag) : Sp := fun vs H Q _ => ∃ c, vs = [.ref c] ∧ Purse H c ∧ ∀ H', ExtC c H H' → Purse H' c → Q (.bl true) H'
theorem gn__law_case_right (T : Top w K mg) : FnG P w K mg base 9 (He.ga K "_law_case_right") (sp__law_case_right K) := by
  obtain ⟨fd__law_multiplied, G__law_multiplied, b__law_multiplied, k__law_multiplied⟩ := ok__law_multiplied (P := P) (w := w) (base := base) T
  obtain ⟨fd__law_rows, G__law_rows, b__law_rows, k__law_rows⟩ := ok__law_rows (P := P) (w := w) (base := base) T
  obtain ⟨fd__law_roll, G__law_roll, b__law_roll, k__law_roll⟩ := ok__law_roll (P := P) (w := w) (base := base) T
  obtain ⟨fd__law_common, G__law_common, b__law_common, k__law_common⟩ := ok__law_common (P := P) (w := w) (base := base) T
  obtain ⟨fd_Web___init__, G_Web___init__, b_Web___init__, k_Web___init__⟩ := ok_Web___init__ (P := P) (w := w) (base := base) T
  obtain ⟨fd_Web_kept, G_Web_kept, b_Web_kept, k_Web_kept⟩ := ok_Web_kept (P := P) (w := w) (base := base) T
  obtain ⟨fd__law_size, G__law_size, b__law_size, k__law_size⟩ := ok__law_size (P := P) (w := w) (base := base) T
  obtain ⟨fd__law_rows_behind, G__law_rows_behind, b__law_rows_behind, k__law_rows_behind⟩ := ok__law_rows_behind (P := P) (w := w) (base := base) T
  obtain ⟨fd_Web_rows, G_Web_rows, b_Web_rows, k_Web_rows⟩ := ok_Web_rows (P := P) (w := w) (base := base) T
  obtain ⟨fd_Web_turn, G_Web_turn, b_Web_turn, k_Web_turn⟩ := ok_Web_turn (P := P) (w := w) (base := base) T
  obtain ⟨fd, F⟩ := T.f__law_case_right
  refine okG F sc__law_case_right (fun vs H Q E h => ?hlen) (fun _ _ _ _ _ _ us hl => match us, hl with | [_], _ => rfl) (fun cdv A outer s H vs Q E quiet hr h => ⟨_, (pss_cons (ps_for PassesOwn.never rfl (pi_range1 (by rfl) T.b_range (pa_cons pe_int pa_nil)) (pg_name (i := 1) sc__law_case_right.nd rfl (Or.inl rfl)) (pss_cons (ps_set (i := 2) sc__law_case_right.nd rfl (Or.inl rfl) (pe_call G__law_multiplied (hr.mono (by decide)) (by rfl) T.g__law_multiplied k__law_multiplied b__law_multiplied .nil pass0 (pa_cons (pv 0) (pa_cons (pe_call G__law_rows (hr.mono (by decide)) (by rfl) T.g__law_rows k__law_rows b__law_rows .nil pass0 (pa_cons (pv 0) (pa_cons (pe_op op_add pe_int (pe_call G__law_roll (hr.mono (by decide)) (by rfl) T.g__law_roll k__law_roll b__law_roll .nil pass0 (pa_cons (pv 0) (pa_cons pe_int pa_nil)))) (pa_cons pe_int pa_nil)))) pa_nil))))
    (pss_cons (ps_par (i := 3) (j := 4) (by rfl) sc__law_case_right.nd rfl rfl (by decide) rfl rfl (pa_cons (pe_make T.m_Web G_Web___init__ (hr.mono (by decide)) (by rfl) T.g_Web b_Web___init__ .nil pass0 (pa_cons (pv 2) pa_nil)) (pa_cons (pe_callTy call_tuple_of (by rfl) T.b_tuple (by decide +kernel) (pa_cons (pe_lc (own := [("_law_row", 8)]) (g := gName 8) (tt := tYes) (by rfl) sc__law_case_right.nd (pi_tup (pv 2)) (blkOk_by (own := [("_law_row", 8)]) (N := N__law_case_right) (sc := defScope s__law_case_right) (by decide +kernel)) (fun _ _ _ _ _ => pg_name (i := 8) sc__law_case_right.nd rfl (by first | exact Or.inl rfl | exact Or.inr rfl)) (fun _ _ _ _ _ => pts_nil) (fun _ _ _ _ _ => (pe_call G__law_common (hr.mono (by decide)) (by rfl) T.g__law_common k__law_common b__law_common .nil pass0 (pa_cons (pv 8) pa_nil)))) pa_nil)) pa_nil)) (by rfl))
    (pss_cons (ps_for PassesOwn.never rfl (pi_range1 (by rfl) T.b_range (pa_cons (pe_op op_add pe_int (pe_call G__law_roll (hr.mono (by decide)) (by rfl) T.g__law_roll k__law_roll b__law_roll .nil pass0 (pa_cons (pv 0) (pa_cons pe_int pa_nil)))) pa_nil)) (pg_name (i := 5) sc__law_case_right.nd rfl (Or.inl rfl)) (pss_cons (ps_if (pt_cmpR op_ne (pe_callB (EX.call_repr_ quiet (hu64 hr)) (by rfl) T.b_repr (by decide +kernel) (pa_cons (pe_prop (pv 3) T.c_Web (propOk.of T.x_prop_Web_kept) G_Web_kept (hr.mono (by decide)) b_Web_kept .nil pass0 rfl) pa_nil)) (pe_callB (EX.call_repr_ quiet (hu64 hr)) (by rfl) T.b_repr (by decide +kernel) (pa_cons (pv 4) pa_nil)) (nomark _)) (pss_one (ps_ret pe_bl)) pss_nil)
    (pss_cons (ps_set (i := 6) sc__law_case_right.nd rfl (Or.inl rfl) (pe_call G__law_roll (hr.mono (by decide)) (by rfl) T.g__law_roll k__law_roll b__law_roll .nil pass0 (pa_cons (pv 0) (pa_cons (pe_callB call_len_seq (by rfl) T.b_len PySem.boot_len (pa_cons (pv 2) pa_nil)) pa_nil))))
    (pss_one (ps_if (pt_cmpR op_le (pe_call G__law_size (hr.mono (by decide)) (by rfl) T.g__law_size k__law_size b__law_size .nil pass0 (pa_cons (pe_call G__law_rows_behind (hr.mono (by decide)) (by rfl) T.g__law_rows_behind k__law_rows_behind b__law_rows_behind .nil pass0 (pa_cons (pe_prop (pv 3) T.c_Web (propOk.of T.x_prop_Web_rows) G_Web_rows (hr.mono (by decide)) b_Web_rows .nil pass0 rfl) (pa_cons (pv 6) pa_nil))) pa_nil)) (pe_op op_pow pe_int pe_int) (nomark _)) (pss_one (ps_set (i := 3) sc__law_case_right.nd rfl (Or.inl rfl) (pe_meth (pv 3) T.c_Web T.me_Web_turn G_Web_turn (hr.mono (by decide)) b_Web_turn .nil pass0 (pa_cons (pv 6) pa_nil)))) pss_nil)))))
    (pss_one (ps_if (pt_cmpR op_ne (pe_callB (EX.call_repr_ quiet (hu64 hr)) (by rfl) T.b_repr (by decide +kernel) (pa_cons (pe_prop (pv 3) T.c_Web (propOk.of T.x_prop_Web_kept) G_Web_kept (hr.mono (by decide)) b_Web_kept .nil pass0 rfl) pa_nil)) (pe_callB (EX.call_repr_ quiet (hu64 hr)) (by rfl) T.b_repr (by decide +kernel) (pa_cons (pv 4) pa_nil)) (nomark _)) (pss_one (ps_ret pe_bl)) pss_nil))))))
    (pss_cons (ps_set (i := 7) sc__law_case_right.nd rfl (Or.inl rfl) (pe_make T.m_Web G_Web___init__ (hr.mono (by decide)) (by rfl) T.g_Web b_Web___init__ .nil pass0 (pa_cons (pe_tup (pa_cons (pe_tup (pa_cons pe_int (pa_cons pe_int (pa_cons pe_int pa_nil)))) (pa_cons (pe_tup (pa_cons pe_int (pa_cons pe_int (pa_cons pe_int pa_nil)))) (pa_cons (pe_tup (pa_cons pe_int (pa_cons (pe_un un_neg pe_int) (pa_cons pe_int pa_nil)))) pa_nil)))) pa_nil)))
    (pss_one (ps_ret (pe_and (pe_cmpR (op_eqD (hu64 hr)) (pe_prop (pv 7) T.c_Web (propOk.of T.x_prop_Web_kept) G_Web_kept (hr.mono (by decide)) b_Web_kept .nil pass0 rfl) (pe_tup (pa_cons pe_int (pa_cons pe_int (pa_cons pe_int pa_nil)))) (nomark _)) (pe_one (pe_cmpR (op_eqD (hu64 hr)) (pe_prop (pe_meth (pv 7) T.c_Web T.me_Web_turn G_Web_turn (hr.mono (by decide)) b_Web_turn .nil pass0 (pa_cons pe_int pa_nil)) T.c_Web (propOk.of T.x_prop_Web_kept) G_Web_kept (hr.mono (by decide)) b_Web_kept .nil pass0 rfl) (pe_tup (pa_cons pe_int (pa_cons pe_int (pa_cons pe_int pa_nil)))) (nomark _)))))))), ?hrd⟩)
  case hlen =>
    obtain ⟨c, rfl, _⟩ := h
    rfl
  case hrd =>
    obtain ⟨c, rfl, hc, q⟩ := h
    walk_at "gos"
    refine ⟨by decide, by decide, ?_⟩
    refine loop_range (fun i σ' H' => ∃ u1 u2 u3 u4 u5 u6 u7 u8, σ' = [some (.ref c), u1, u2, u3, u4, u5, u6, u7, u8] ∧ ExtC c H H' ∧ Purse H' c) ⟨_, _, _, _, _, _, _, _, rfl, ExtC.refl _ _, hc⟩ ?_ ?_
    · rintro i σ' H1 hi ⟨u1, u2, u3, u4, u5, u6, u7, u8, rfl, e1, hc1⟩
      walk_at "gos"
      refine ⟨c, _, rfl, hc1, by decide, by decide +kernel, fun k H2 k0 k1 e2 hc2 => ?_⟩
      walk_at "gos"
      obtain ⟨n, hn⟩ : ∃ n : Nat, 2 + k = (n : Int) := ⟨(2 + k).toNat, by omega⟩
      rw [hn]
      refine ⟨c, 12, n, rfl, hc2, by omega, by omega, by decide, by decide +kernel, fun r f0 H3 e3 hc3 hm3 fb0 fs0 => ?_⟩
      refine ⟨c, r, f0, n, rfl, hc3, hm3, by omega, by omega, fb0, fs0, fun a f1 H4 e4 hc4 hm4' fb' fs' => ?_⟩
      obtain ⟨f, hf⟩ : ∃ f, cutW n f1 = f := ⟨_, rfl⟩
      have hm4 : MatAt H4 a n f := hf ▸ hm4'.cut
      have fb : ∀ i j, nat (f i j) ≤ 72 := hf ▸ cutW_le fb'
      have fs : ∀ i j, f i j = -f j i := hf ▸ cutW_skew fs'
      have fl : Flat n f := hf ▸ cutW_flat
      have n2 : 2 ≤ n := by omega
      have n5 : n ≤ 5 := by omega
      have fw : ∀ i j, nat (f i j) ≤ WEB := fun i j => Int.le_trans (fb i j) (by decide +kernel)
      walk_at "gos"
      intro x dx nx nd hne
      refine ⟨x, dx, a, n, f, H4, rfl, upd_same, (Evl.Ex.new nd).mut nx, nx, (hm4.ext ((Evl.Ex.new nd).mut nx)), n2, n5, fw, fs, fun H5 e5 h5 => ⟨rfl, ?_⟩⟩
      walk_at "gos"
      refine go_lc ?_
      walk_at "gos"
      obtain ⟨rs, hl, ha, hr⟩ := id (hm4.ext e5)
      refine ⟨⟨_, SqT.of ha⟩, ?_⟩
      refine lc_all (walk_tup (xs := rs.map V.ref)) ((keptW n f).map .int) (by rw [List.length_map, List.length_map, hl]; simp [keptW]) (by rw [List.length_map, hl]; omega) (fun _ e => SqT.of (e _ _ ha)) (fun d nd i x y H6 H' QE hy e6 y1 hq2 => ?_) mono_name fun d nd6 H6 e6 hd => ?_
      · obtain ⟨rfl, hx⟩ := y1
        rw [List.getElem?_map] at hx
        obtain ⟨r, hri, rfl⟩ := Option.map_eq_some_iff.mp hx
        have hlt : i < n := by
          rw [← hl]
          exact (List.getElem?_eq_some_iff.mp hri).1
        rw [List.getElem?_map, keptW, List.getElem?_map, List.getElem?_range hlt] at hy
        cases Option.some.inj hy
        walk_at "gos"
        refine ⟨rfl, ?_⟩
        walk_at "gos"
        exact ⟨r, rowOf n f i, rfl, e6 _ _ (hr i r hri), by simp [rowOf]; omega, fun z hz => Int.le_trans (row_le fb z hz) (by decide), fun H7 e7 => hq2 H7 e7⟩
      walk_at "gos"
      refine ⟨d, _, rfl, .inl ⟨SqL.of hd, fun t nt => ?_⟩⟩
      have e57 : Ext H5 (upd H6 t (.tup ((keptW n f).map .int))) := ext_new e6 nt
      obtain ⟨H7, eq7⟩ : ∃ H7, upd H6 t (.tup ((keptW n f).map .int)) = H7 := ⟨_, rfl⟩
      have ht7 : H7 t = some (.tup ((keptW n f).map .int)) := by rw [← eq7]; exact upd_same
      rw [eq7] at e57 ⊢
      have e47 := e5.trans e57
      have hc7 := hc4.ext e47
      have e17 : ExtC c H H7 := ((e1.trans e2).trans (e3.trans e4)).trans (ExtC.of e47)
      have hm7 := hm4.ext e47
      have hw7 : WebAt K H7 x n f := ⟨dx, a, e57 _ _ h5, hm7⟩
      walk_at "gos"
      refine ⟨c, _, rfl, hc7, by decide, by decide +kernel, fun m H8 m0 m1 e8 hc8 => ?_⟩
      walk_at "gos"
      refine And.intro (by omega) (And.intro (by omega) ?_)
      refine loop_range (fun (_ : Nat) σ' H' => ∃ y5 y6 y7 y8 s g, σ' = [some (.ref c), some (.int (0 + (i : Nat))), some (.ref a), some (.ref s), some (.ref t), y5, y6, y7, y8] ∧ ExtC c H H' ∧ Purse H' c ∧ MatAt H' a n f ∧ H' t = some (.tup ((keptW n f).map .int)) ∧ WebAt K H' s n g ∧ (∀ i j, nat (g i j) ≤ WEB) ∧ (∀ i j, g i j = -g j i) ∧ Flat n g ∧ keptW n g = keptW n f) ⟨_, _, _, _, x, f, rfl, e17.trans e8, hc8, hm7.extC hc7 e8, e8.tupP hc7 ht7, hw7.extC hc7 e8, fw, fs, fl, rfl⟩ ?_ ?_
      · rintro j σ' H9 hj ⟨y5, y6, y7, y8, s, g, rfl, e9, hc9, hm9, ht9, hw9, gw, gs, gl, gk⟩
        obtain ⟨dx9, a9, hs9, hg9⟩ := id hw9
        walk_at "gos"
        refine ⟨s, dx9, _, rfl, hs9, ?_⟩
        refine ⟨s, dx9, a9, n, g, rfl, hs9, hg9, by omega, fun r H10 nr e10 hr10 => ?_⟩
        rw [keptW_at, gk] at hr10
        obtain ⟨x1, x2, x3, x4⟩ := (keptW_tx n5 (by decide) (by decide) fb).ok (by decide) (by decide)
        walk_at "gos"
        refine ⟨r, _, rfl, .tup (SqT.of hr10) (dp_ints _), x1, x2, x3, x4, ?_⟩
        walk_at "gos"
        refine ⟨t, _, rfl, .tup (SqT.of (e10 _ _ ht9)) (dp_ints _), x1, x2, x3, x4, ?_⟩
        walk_at "gos"
        rw [decide_eq_true rfl]
        have hc10 := hc9.ext e10
        have ea : ExtC c H H10 := e9.trans (ExtC.of e10)
        obtain ⟨rsA, hlA, haA, _⟩ := id (hm9.ext e10)
        walk_at "gos"
        refine ⟨_, _, rfl, .inr (SqT.of haA), ?_⟩
        walk_at "gos"
        rw [List.length_map, hlA]
        refine ⟨c, _, rfl, hc10, by omega, Int.le_trans (show (n : Int) ≤ 5 by omega) (by decide +kernel), fun p0 H11 p1 p2 e11 hc11 => ?_⟩
        obtain ⟨p, rfl⟩ : ∃ p : Nat, p0 = (p : Int) := ⟨p0.toNat, by omega⟩
        have hp : p < n := by omega
        have hw11 := (hw9.ext e10).extC hc10 e11
        obtain ⟨dx11, a11, hs11, hg11⟩ := id hw11
        walk_at "gos"
        refine ⟨s, dx11, _, rfl, hs11, ?_⟩
        refine ⟨s, dx11, a11, rfl, hs11, ?_⟩
        walk_at "gos"
        refine ⟨a11, n, g, p, rfl, hg11, hp, by omega, gw, fun r2 H12 e12 hm12 => ?_⟩
        refine ⟨r2, n, mutW g p, rfl, hm12, by omega, by omega, fun mx H13 e13 hmx => ?_⟩
        walk_at "gos"
        have hw13 := hw11.ext (e12.trans e13)
        have eb : ExtC c H H13 := (ea.trans e11).trans (ExtC.of (e12.trans e13))
        have hc13 := hc11.ext (e12.trans e13)
        have hm13 := ((hm9.ext e10).extC hc10 e11).ext (e12.trans e13)
        have ht13 := (e12.trans e13) _ _ (e11.tupP hc10 (e10 _ _ ht9))
        refine go_ite (fun cm => ?_) (fun cm => ?_)
        · obtain ⟨dx13, a13, hs13, hg13⟩ := id hw13
          have tw := flat_le gl.turn (B := WEB) (by decide) fun i j hi hj => Int.le_trans (hmx i j hi hj) cm
          walk_at "gos"
          refine ⟨s, dx13, _, rfl, hs13, rfl, ?_⟩
          walk_at "gos"
          refine ⟨s, dx13, a13, n, g, p, rfl, hs13, hg13, n2, n5, hp, gw, gs, tw, mutW_skew gs, fun s' dx' a' H14 e14 hs14 hm14 => ?_⟩
          exact ⟨_, _, _, _, s', mutW g p, rfl, eb.trans (ExtC.of e14), hc13.ext e14, hm13.ext e14, e14 _ _ ht13, ⟨dx', a', hs14, hm14⟩, tw, mutW_skew gs, gl.turn, by rw [keptW_turn hp]; exact gk⟩
        · exact ⟨_, _, _, _, s, g, rfl, eb, hc13, hm13, ht13, hw13, gw, gs, gl, gk⟩
      · rintro σ' H9 ⟨y5, y6, y7, y8, s, g, rfl, e9, hc9, hm9, ht9, hw9, gw, gs, gl, gk⟩
        obtain ⟨dx9, a9, hs9, hg9⟩ := id hw9
        walk_at "gos"
        refine ⟨s, dx9, _, rfl, hs9, ?_⟩
        refine ⟨s, dx9, a9, n, g, rfl, hs9, hg9, by omega, fun r H10 nr e10 hr10 => ?_⟩
        rw [keptW_at, gk] at hr10
        obtain ⟨x1, x2, x3, x4⟩ := (keptW_tx n5 (by decide) (by decide) fb).ok (by decide) (by decide)
        walk_at "gos"
        refine ⟨r, _, rfl, .tup (SqT.of hr10) (dp_ints _), x1, x2, x3, x4, ?_⟩
        walk_at "gos"
        refine ⟨t, _, rfl, .tup (SqT.of (e10 _ _ ht9)) (dp_ints _), x1, x2, x3, x4, ?_⟩
        walk_at "gos"
        rw [decide_eq_true rfl]
        walk_at "gos"
        exact ⟨_, _, _, _, _, _, _, _, rfl, e9.trans (ExtC.of e10), hc9.ext e10⟩
    · rintro σ' H1 ⟨u1, u2, u3, u4, u5, u6, u7, u8, rfl, e1, hc1⟩
      walk_at "gos"
      intro p1 n1
      walk_at "gos"
      intro p2 n2
      walk_at "gos"
      intro p3 n3
      walk_at "gos"
      intro p4 n4
      walk_at "gos"
      intro x dx nx nd hne
      have e4 : Ext H1 (upd (upd (upd (upd H1 p1 (.tup [.int 0, .int 0, .int 0])) p2 (.tup [.int 0, .int 0, .int 4])) p3 (.tup [.int 0, .int (-4), .int 0])) p4 (.tup [.ref p1, .ref p2, .ref p3])) := ext_new (ext_new (ext_new (Evl.Ex.new n1) n2) n3) n4
      have hz := zeroF_mat (a := p4) (p := p1) (q := p2) (r := p3) (H := upd (upd (upd (upd H1 p1 (.tup [.int 0, .int 0, .int 0])) p2 (.tup [.int 0, .int 0, .int 4])) p3 (.tup [.int 0, .int (-4), .int 0])) p4 (.tup [.ref p1, .ref p2, .ref p3])) upd_same (mem_new n4 (mem_new n3 (mem_new n2 upd_same))) (mem_new n4 (mem_new n3 upd_same)) (mem_new n4 upd_same)
      generalize (upd (upd (upd (upd H1 p1 (.tup [.int 0, .int 0, .int 0])) p2 (.tup [.int 0, .int 0, .int 4])) p3 (.tup [.int 0, .int (-4), .int 0])) p4 (.tup [.ref p1, .ref p2, .ref p3])) = H2 at nx nd e4 hz ⊢
      refine ⟨x, dx, p4, 3, zeroF, H2, rfl, upd_same, (Evl.Ex.new nd).mut nx, nx, hz.ext ((Evl.Ex.new nd).mut nx), by decide, by decide, zeroF_le, zeroF_skew, fun H5 e5 h5 => ⟨rfl, ?_⟩⟩
      have hz5 := hz.ext e5
      walk_at "gos"
      refine ⟨x, dx, _, rfl, h5, ?_⟩
      refine ⟨x, dx, p4, 3, zeroF, rfl, h5, hz5, by decide, fun r H6 nr e6 hr => ?_⟩
      rw [keptW_at, zeroF_kept] at hr
      walk_at "gos"
      intro p5 n5
      refine go_eqT (ns := [0, 4, 4]) (ms := [0, 4, 4]) (SqT.of (mem_new n5 hr)) (SqT.of upd_same) ?_
      rw [decide_eq_true rfl]
      have e7 := ext_new (o := .tup [.int 0, .int 4, .int 4]) e6 n5
      have hx7 := e7 _ _ h5
      have hz7 := hz5.ext e7
      generalize (upd H6 p5 (.tup [.int 0, .int 4, .int 4])) = H7 at e7 hx7 hz7 ⊢
      walk_at "gos"
      refine ⟨x, dx, _, rfl, hx7, rfl, ?_⟩
      walk_at "gos"
      refine ⟨x, dx, p4, 3, zeroF, 1, rfl, hx7, hz7, by decide, by decide, by decide, zeroF_le, zeroF_skew, zeroF_turn, mutW_skew zeroF_skew, fun x' dx' a' H8 e8 hx8 hm8 => ?_⟩
      refine ⟨x', dx', _, rfl, hx8, ?_⟩
      refine ⟨x', dx', a', 3, _, rfl, hx8, hm8, by decide, fun r2 H9 nr2 e9 hr9 => ?_⟩
      rw [keptW_at, keptW_turn (by decide), zeroF_kept] at hr9
      walk_at "gos"
      intro p6 n6
      refine go_eqT (ns := [0, 4, 4]) (ms := [0, 4, 4]) (SqT.of (mem_new n6 hr9)) (SqT.of upd_same) ?_
      rw [decide_eq_true rfl]
      have e10 := ext_new (o := .tup [.int 0, .int 4, .int 4]) (e8.trans e9) n6
      have eF := e4.trans (e5.trans (e7.trans e10))
      exact q _ (e1.trans (ExtC.of eF)) (hc1.ext eF)
end
end At

namespace At
open L2 PyProof.Rows PySem.Spec PySem
section
variable {base : Heap} {w : World} {K : PySem.W.Frag} {mg : Str → Option Value} {P : Program}
abbrev N__law_purse : List Str := ["_law_cell_here"]
theorem sc__law_purse : FnScope N__law_purse ["_law_cell_here"] (defScope s__law_purse) := ⟨rfl, rfl, rfl, by decide +kernel, rfl, by decide +kernel, by decide +kernel⟩
def sp__law_purse (K : PySem.W.Frag) : Sp := fun vs H Q _ => ∃ i : Int, vs = [.int i] ∧ ∀ p H', H p = none → Ext H H' → Purse H' p → Q (.ref p) H'
theorem fn__law_purse (T : Top w K mg) {fd : FuncData} (F : Fun K "_law_purse" "_law_purse" s__law_purse (He.ga K "_law_purse") fd) : FnOk P w K mg base CX0 1 (He.ga K "_law_purse") fd ["_law_cell_here"] (sp__law_purse K) := by
  refine F.ok sc__law_purse (fun vs H Q E h => ?hlen) (fun cdv A outer s H vs Q E hr h => ⟨_, (pss_one (ps_ret (pe_lst (pa_cons (pe_ifExp (PW.pt (pw_or (pt_cmpR op_lt (pv 0) pe_int (nomark _)) (pw_or1 (pt_cmpR op_ge (pv 0) (pe_op op_pow pe_int pe_int) (nomark _))))) (pe_callB call_abs (by rfl) T.b_abs (by decide +kernel) (pa_cons (pv 0) pa_nil)) pe_int) (pa_cons (pe_op op_modN (pe_callTy call_int1 (by rfl) T.b_int (by decide +kernel) (pa_cons (pe_op op_add (pe_op op_mul (pv 0) pe_int) pe_int) pa_nil)) pe_int) (pa_cons pe_int pa_nil)))))), ?hrd⟩)
  case hlen =>
    obtain ⟨i, rfl, _⟩ := h
    rfl
  case hrd =>
    obtain ⟨i, rfl, q⟩ := h
    walk_at "gos"
    obtain ⟨y0, y1⟩ := mixedP (i * 48271 + 11)
    refine go_ite (fun c2 => ?_) (fun c2 => ?_)
    · walk_at "gos"
      refine .inl ⟨_, rfl, ?_⟩
      walk_at "gos"
      intro p np
      refine q p _ np (ext_new (Evl.Ex.refl _) np) ⟨_, _, 0, upd_same, ?_, y0, y1⟩
      split <;> omega
    · walk_at "gos"
      refine go_ite (fun c3 => ?_) (fun c3 => ?_)
      · walk_at "gos"
        refine .inl ⟨_, rfl, ?_⟩
        walk_at "gos"
        intro p np
        refine q p _ np (ext_new (Evl.Ex.refl _) np) ⟨_, _, 0, upd_same, ?_, y0, y1⟩
        split <;> omega
      · walk_at "gos"
        refine .inl ⟨_, rfl, ?_⟩
        walk_at "gos"
        intro p np
        exact q p _ np (ext_new (Evl.Ex.refl _) np) ⟨_, _, 0, upd_same, Int.le_refl _, y0, y1⟩
theorem ok__law_purse (T : Top w K mg) : OkD P w K mg base 1 (He.ga K "_law_purse") ["_law_cell_here"] (sp__law_purse K) := by
  obtain ⟨fd, F⟩ := T.f__law_purse
  exact ⟨fd, fn__law_purse T F, F.binds (ps := ["_law_cell_here"]) fun _ _ _ _ _ _ us hl => match us, hl with | [_], _ => rfl, F.kp⟩
end
end At

namespace At
open L2 PyProof.Rows PySem.Spec PySem
section
variable {base : Heap} {w : World} {K : PySem.W.Frag} {mg : Str → Option Value} {P : Program}
abbrev N__law_cell : List Str := ["_law_script", "_law_k", "_law_mixed", "_law_part"]
theorem sc__law_cell : FnScope N__law_cell ["_law_script", "_law_k"] (defScope s__law_cell) := ⟨rfl, rfl, rfl, by decide +kernel, rfl, by decide +kernel, by decide +kernel⟩
def sp__law_cell (K : PySem.W.Frag) : Sp := fun vs H Q _ => ∃ (a : Addr) (ns : List Int) (k : Int), vs = [.ref a, .int k] ∧ SqL K H a (ns.map .int) ∧ 0 ≤ k ∧ k ≤ 63 ∧ ns.length ≤ 63 ∧ ∀ i H', Ext H H' → Q (.int i) H'
theorem cut_mem {xs : List V} {l u : Option Int} {x : V} (h : x ∈ cutV xs l u) : x ∈ xs := by
  unfold cutV at h
  exact List.mem_of_mem_drop (List.mem_of_mem_take h)
theorem fn__law_cell (T : Top w K mg) {fd : FuncData} (F : Fun K "_law_cell" "_law_cell" s__law_cell (He.ga K "_law_cell") fd) : FnOk P w K mg base CX0 1 (He.ga K "_law_cell") fd ["_law_script", "_law_k"] (sp__law_cell K) := by
  refine F.ok sc__law_cell (fun vs H Q E h => ?hlen) (fun cdv A outer s H vs Q E hr h => ⟨_, (pss_cons (ps_if (pt_cmpR op_lt (pv 1) (pe_callB call_len_seq (by rfl) T.b_len PySem.boot_len (pa_cons (pv 0) pa_nil)) (nomark _)) (pss_one (ps_ret (pe_ix ix_list (pv 0) (pv 1) (fun _ _ => rfl)))) pss_nil)
    (pss_cons (ps_set (i := 2) sc__law_cell.nd rfl (Or.inl rfl) (pe_op op_modN (pe_callTy call_int1 (by rfl) T.b_int (by decide +kernel) (pa_cons (pe_op op_mul pe_int (pe_op op_add (pe_op op_add (pe_op op_mulW (pv 1) (pv 1)) (pe_op op_mul pe_int (pv 1))) pe_int)) pa_nil)) pe_int))
    (pss_cons (ps_for PassesOwn.never rfl (pi_list (pe_slice sl_list (pv 0) po_none (po_some pe_int))) (pg_name (i := 3) sc__law_cell.nd rfl (Or.inl rfl)) (pss_one (ps_set (i := 2) sc__law_cell.nd rfl (Or.inl rfl) (pe_op op_modN (pe_callTy call_int1 (by rfl) T.b_int (by decide +kernel) (pa_cons (pe_op op_add (pe_op op_add (pe_op op_mul (pv 2) pe_int) (pe_op op_mul (pv 3) pe_int)) pe_int) pa_nil)) pe_int))))
    (pss_one (ps_ret (pv 2)))))), ?hrd⟩)
  case hlen =>
    obtain ⟨a, ns, k, rfl, _⟩ := h
    rfl
  case hrd =>
    obtain ⟨a, ns, k, rfl, hq, s0, s1, hl, q⟩ := h
    have el : (ns.map V.int).length = ns.length := List.length_map ..
    walk_at "gos"
    refine ⟨_, _, rfl, .inl hq, ?_⟩
    walk_at "gos"
    refine go_ite (fun c1 => ?_) (fun c1 => ?_)
    · rw [el] at c1
      obtain ⟨k, rfl⟩ : ∃ j : Nat, k = (j : Int) := ⟨k.toNat, by omega⟩
      have hk : k < ns.length := by omega
      walk_at "gos"
      refine go_rIxL (v := .int ns[k]) hq (atI_nat (j := k) (by rw [List.getElem?_map, List.getElem?_eq_getElem hk]; rfl)) ?_
      exact q _ _ (Evl.Ex.refl _)
    · walk_at "gos"
      refine go_rI (mul_ok (B := MID) (by decide +kernel) (by unfold nat; rw [if_neg (by omega)]; exact Int.le_trans (show k ≤ 63 by omega) (by decide +kernel)) (by unfold nat; rw [if_neg (by omega)]; exact Int.le_trans (show k ≤ 63 by omega) (by decide +kernel))) ?_
      walk_at "gos"
      refine .inl ⟨_, rfl, ?_⟩
      walk_at "gos"
      refine ⟨_, _, rfl, hq, fun l nl => ?_⟩
      refine ⟨l, rfl, ⟨_, SqL.of upd_same⟩, ?_⟩
      refine loop_list (xs := cutV (ns.map V.int) none (some 3)) (fun i σ' H' => ∃ (m : Int) (y : Option V), σ' = [some (.ref a), some (.int k), some (.int m), y] ∧ Ext H H' ∧ H' l = some (.lst (cutV (ns.map V.int) none (some 3)))) ⟨_, none, rfl, Evl.Ex.new nl, upd_same⟩ (fun i σ' H' _ pv => by
        obtain ⟨_, _, _, _, h⟩ := pv
        exact SqL.of h) (fun i x σ' H' hx pv => ?_) ?_
      · obtain ⟨m, y, rfl, e, h⟩ := pv
        obtain ⟨one, _, rfl⟩ := List.mem_map.mp (cut_mem (List.mem_of_getElem? hx))
        walk_at "gos"
        refine .inl ⟨_, rfl, ?_⟩
        walk_at "gos"
        first | exact ⟨e, h⟩ | exact ⟨_, _, rfl, e, h⟩
      rintro σ' H' ⟨m, y, rfl, e, _⟩
      walk_at "gos"
      exact q _ _ e
theorem ok__law_cell (T : Top w K mg) : OkD P w K mg base 1 (He.ga K "_law_cell") ["_law_script", "_law_k"] (sp__law_cell K) := by
  obtain ⟨fd, F⟩ := T.f__law_cell
  exact ⟨fd, fn__law_cell T F, F.binds (ps := ["_law_script", "_law_k"]) fun _ _ _ _ _ _ us hl => match us, hl with | [_, _], _ => rfl, F.kp⟩
end
end At

namespace At
open L2 PyProof.Rows PySem.Spec PySem
section
variable {base : Heap} {w : World} {K : PySem.W.Frag} {mg : Str → Option Value} {P : Program}
abbrev N_law : List Str := ["_law_script", "_law_k"]
theorem sc_law : FnScope N_law ["_law_script"] (defScope s_law) := ⟨rfl, rfl, rfl, by decide +kernel, rfl, by decide +kernel, by decide +kernel⟩
def sp_law (K : PySem.W.Frag) : Sp := fun vs H Q _ => ∃ (a : Addr) (ns : List Int), vs = [.ref a] ∧ SqL K H a (ns.map .int) ∧ ns.length ≤ 63 ∧ ∀ H', Q (.bl true) H'
theorem gn_law (T : Top w K mg) : FnG P w K mg base 10 (He.ga K "law") (sp_law K) := by
  have G__law_case_right := gn__law_case_right (P := P) (w := w) (base := base) T
  obtain ⟨_, F__law_case_right⟩ := T.f__law_case_right
  obtain ⟨fd__law_purse, G__law_purse, b__law_purse, k__law_purse⟩ := ok__law_purse (P := P) (w := w) (base := base) T
  obtain ⟨fd__law_cell, G__law_cell, b__law_cell, k__law_cell⟩ := ok__law_cell (P := P) (w := w) (base := base) T
  obtain ⟨fd, F⟩ := T.f_law
  refine okG F sc_law (fun vs H Q E h => ?hlen) (fun _ _ _ _ _ _ us hl => match us, hl with | [_], _ => rfl) (fun cdv A outer s H vs Q E quiet hr h => ⟨_, (pss_cons (ps_for PassesOwn.never rfl (pi_range1 (by rfl) T.b_range (pa_cons (pe_callB (call_max2 rfl) (by rfl) T.b_max (by decide +kernel) (pa_cons pe_int (pa_cons (pe_callB (call_min2 rfl) (by rfl) T.b_min (by decide +kernel) (pa_cons (pe_callB call_len_seq (by rfl) T.b_len PySem.boot_len (pa_cons (pv 0) pa_nil)) (pa_cons pe_int pa_nil))) pa_nil))) pa_nil)) (pg_name (i := 1) sc_law.nd rfl (Or.inl rfl)) (pss_one (ps_if (pt_not (pt_val (pe_callG G__law_case_right quiet (hr.mono (by decide)) (by rfl) T.g__law_case_right F__law_case_right.kp pass0 (pa_cons (pe_call G__law_purse (hr.mono (by decide)) (by rfl) T.g__law_purse k__law_purse b__law_purse .nil pass0 (pa_cons (pe_call G__law_cell (hr.mono (by decide)) (by rfl) T.g__law_cell k__law_cell b__law_cell .nil pass0 (pa_cons (pv 0) (pa_cons (pv 1) pa_nil))) pa_nil)) pa_nil)))) (pss_one (ps_ret pe_bl)) pss_nil)))
    (pss_one (ps_ret pe_bl))), ?hrd⟩)
  case hlen =>
    obtain ⟨a, ns, rfl, _⟩ := h
    rfl
  case hrd =>
    obtain ⟨a, ns, rfl, hq, hl, q⟩ := h
    have el : (ns.map V.int).length = ns.length := List.length_map ..
    walk_at "gos"
    refine ⟨_, _, rfl, .inl hq, ?_⟩
    walk_at "gos"
    rw [el]
    refine And.intro (by split <;> split <;> omega) (And.intro (by split <;> split <;> omega) ?_)
    refine loop_range (fun (i : Nat) σ' H' => ∃ y, σ' = [some (.ref a), y] ∧ Ext H H') ⟨_, rfl, Evl.Ex.refl _⟩ ?_ ?_
    · rintro i σ' H1 hi ⟨y, rfl, e1⟩
      have hi5 : i < 5 := by
        have h5 : (if (if 5 < (ns.length : Int) then 5 else (ns.length : Int)) > 2 then (if 5 < (ns.length : Int) then 5 else (ns.length : Int)) else 2) ≤ 5 := by split <;> split <;> omega
        have := Int.lt_of_lt_of_le (Int.lt_toNat.mp hi) h5
        omega
      walk_at "gos"
      rw [Int.zero_add]
      refine ⟨a, ns, (i : Int), rfl, sqL_ext hq e1, by omega, by omega, hl, fun v H2 e2 => ?_⟩
      refine ⟨v, rfl, fun p H3 np e3 hp => ?_⟩
      refine ⟨p, rfl, hp, fun H4 e4 hc4 => ?_⟩
      walk_at "gos"
      have eF := (e1.trans e2).trans (ext_cup np e3 e4)
      first | exact eF | exact ⟨_, rfl, eF⟩
    · rintro σ' H1 ⟨y, rfl, e1⟩
      walk_at "gos"
      exact q H1
end
end At

namespace At
open L2 PyProof.Rows PySem.Spec PySem
/-- the law's call at the end of the top: the script is told as what it is, all else is old -/
theorem called_ {P : Program} {w : World} {K : PySem.W.Frag} {mg mb : Str → Option Value} {s₁ : Shared} {a : Addr} {vs : List Value} {ns : List Int} (T : Top w K mg) (KX : K.In s₁.heap) (hns : s₁.heap.Ns mainGlobals mg) (hb : s₁.heap.Ns builtinsNs mb)
    (hbb : ∀ x : Str, x ≠ "__name__" → mb x = bootBuiltins x) (lim : s₁.heap.NoLimit) (hg : s₁.gens = #[]) (ha : s₁.heap.get? a = some { cls := .type "list", data := .seq vs.toArray }) (hi : IntsAre vs ns) (hl : ns.length ≤ 63) :
    codeAny (model P w) callerA (.call (.ref (He.ga K "law")) ⟨[.ref a], []⟩) (fun r s' => r = .ok (.ret (.bool true)) ∧ OldK s₁.heap s'.heap ∧ s'.os = s₁.os ∧ AllBare s'.gens) s₁ := by
  have rv := vals_ints hi
  have few : ns.length ≤ sizeLine := by rw [sizeLine_eq]; omega
  obtain ⟨ob, eob⟩ : ∃ ob : Obj, ({ cls := .type "list", data := .seq vs.toArray } : Obj) = ob := ⟨_, rfl⟩
  obtain ⟨H, eH⟩ : ∃ H : Hp, (fun b => if b = a ∧ K.lookup a = none then some (.frz ob (.lst (ns.map V.int))) else none) = H := ⟨_, rfl⟩
  have only : ∀ b u, H b = some u → b = a ∧ K.lookup a = none ∧ u = .frz ob (.lst (ns.map V.int)) := fun b u h => by
    rw [← eH] at h
    by_cases c : b = a ∧ K.lookup a = none
    · have h := (if_pos c).symm.trans h
      cases h
      exact ⟨c.1, c.2, rfl⟩
    · have h := (if_neg c).symm.trans h
      cases h
  have clear : ∀ b, b ≠ a → H b = none := fun b n => by
    cases z : H b with
    | none => rfl
    | some u => exact absurd (only b u z).1 n
  have hok : HOk P w H s₁.heap := fun b u h => by
    obtain ⟨rfl, _, rfl⟩ := only b u h
    rw [← eob]
    exact ⟨ha, by rw [List.length_map]; exact few, vs, _, rv, ha⟩
  have sq : SqL K H a (ns.map V.int) := by
    cases hk : K.lookup a with
    | none => exact .inl (.inr ⟨ob, by rw [← eH]; exact if_pos ⟨rfl, hk⟩⟩)
    | some o =>
      have e := KX a o hk
      rw [ha] at e
      cases e
      exact .inr ⟨_, vs.toArray, _, hk, rfl, rfl, rfl, by rw [List.size_toArray, hi.length]; exact few, by simpa using rv⟩
  have keep : ∀ b o, s₁.heap.get? b = some o → H b = none → (hidT s₁.heap H).get? b = some o := fun b o e n => hidT_get e n
  have inK : K.In (hidT s₁.heap H) := fun b o e => keep b o (KX b o e) (by
    cases z : H b with
    | none => rfl
    | some u =>
      obtain ⟨rfl, k, _⟩ := only b u z
      rw [k] at e
      cases e)
  have dicts : ∀ {b : Addr} {m : Str → Option Value}, s₁.heap.Ns b m → (hidT s₁.heap H).Ns b m := fun {b m} z => by
    obtain ⟨o, es, ep, e, d, r⟩ := z
    refine ⟨o, es, ep, keep b o e (clear b fun eq => ?_), d, r⟩
    rw [eq, ha] at e
    cases e
    have d : Data.seq vs.toArray _ = Data.dict es ep := d
    cases d
  have e0 : Env0 P w K mg (hidT s₁.heap H) callerA [] s₁ H := ⟨rfl, ⟨inK, dicts hns, ⟨mb, dicts hb, hbb⟩, let ⟨mc, l1, l2⟩ := lim; ⟨mc, dicts l1, l2⟩⟩, fun b o e => of_hidT e, Nat.le_of_eq (hidT_size _ _), trivial, fun b z => absurd (show b ∈ ([] : List Addr) from z) (by simp), hok, .of_eq hg⟩
  have room : Room 40 callerA := ⟨rfl, by decide, by decide⟩
  refine codeAny_mono (gn_law (P := P) (w := w) (base := hidT s₁.heap H) T callerA [] s₁ H [.ref a] [.ref a] (fun v _ => v = .bl true) (fun _ _ _ => False) rfl (room.mono (by decide)) e0 (.cons rfl .nil) ⟨a, ns, rfl, sq, hl, fun _ => rfl⟩) fun r s' z => ?_
  match r, z with
  | .error _, z => exact (show False from z).elim
  | .ok (.ret u), z =>
    obtain ⟨v, H', os, bare, un, hok', rel, rfl⟩ := z
    cases (show u = Value.bool true from rel)
    (refine ⟨rfl, OldK.of_keep fun b o e => ?_, os, bare⟩)
    cases z : H b with
    | none => exact un.keep b o e z (fun m => absurd (show b ∈ ([] : List Addr) from m) (by simp)) (by simp)
    | some u =>
      obtain ⟨rfl, _, rfl⟩ := only b u z
      have here := (hok' b _ (un.frzs b ob _ z)).1
      rw [ha] at e
      cases e
      rw [eob]
      exact here
end At

open PyProof.Rows PySem.Calls PySem.W PySem
theorem PySem.Challenge.cw_arrowtrios_k56_whole_numbers_kept_of_web_holds : PySem.Challenge.rw_arrowtrios_k56_whole_numbers_kept_of_web.Holds := by
  w_on; o_law
  refine HandSHeadRun.head_imp (r := At.R) (q := view At.R.prog [0, 32]) (H := At.hk) (ob := At.ob) (M := 9000) (loose := At.loose) (d := HandSHeadRun.topDef At.R.prog 32) (kwd := []) At.ob_eq
    At.run (by kernel_rfl) (by kernel_rfl) (by kernel_rfl) (by rfl) (by first | assumption | decide +kernel) (by decide +kernel) ⟨rfl, rfl, rfl, rfl, rfl, by decide +kernel⟩ ?hw ?hc
  case hw => w_witness2
  case hc =>
    refine Att.attach_call (l := PySem.Challenge.rw_arrowtrios_k56_whole_numbers_kept_of_web) (n := 63) rfl (by kernel_rfl) fun w s₀ s₁ mg mb fa o pm cd doc a vs ns G Y ho hd hcd hmg hobj hints hlen hg => ?_
    obtain ⟨K, KX, says, tab, ex⟩ := Y
    have T : At.Top w K mg := ⟨says, tab, ex, ⟨_, KX, G.T.g⟩⟩
    have here : mg ("law" : PySem.Str) = some (.ref fa) := by
      have e : (HandSHeadRun.topDef At.R.prog 32).name = ("law" : PySem.Str) := by kernel_rfl
      rw [← e]
      exact hmg
    cases here.symm.trans T.g_law
    exact At.called_ T KX G.T.g G.T.b G.T.builtins G.T.nolimit hg hobj hints hlen
