import PyProof.Rows.All
import Wide.All
import OpenK.AllK
import Wide.FinOn
import KE.KExcInit
import KE.KExcTry
import KE.KExcStr
import KE.KExcIs
import KE.RegKIsAll
import KE.KExcSuper
import KE.KEqDeep
import HandS.ExcInit
import HandS.ExcField
import HandS.Defaults
import HandS.IsInst
import HandS.Words
import KE.KIsAll
import HandS.Ends
import HandS.More
import HandS.Style
import HandS.NoneIn
import HandS.Property
import HandS.Wide
import HandS.Star
import HandS.Evl
import HandS.Text
import KE.DataMinMax
import HandS.Iter
import HandS.Walk
import KE.GoesNew
import HandS.SlotsOwn
import HandS.MakeKwOnly
import HandS.Replace
import KE.KIndexOf
import HandS.HeadHook3
import HandS.HeadNt
import HandS.WideBits
import HandS.StrMore
import KE.KRevSl
import HandS.Head0
import HandS.Head1
import HandS.Head2
import HandS.HeadEnd
import HandS.New
import HandS.Comp
import HandS.TupAny
import PySem.Challenge.RW_arrowtrios_k31_whole_rows_put_together
set_option Elab.async false
set_option linter.all false
set_option maxRecDepth 100000
set_option maxHeartbeats 0
namespace ErrKw
open PySem PySem.W PySem.Calls PyProof.Rows PySem.PX
/-- what is laid by the class's __new__: no args, and the exception itself -/
abbrev bare (C t : Addr) : Obj := excObj C t none .none
section
variable {w : World} {A : Around} {prog : Program}
variable {R : Result → Shared → Prop} {h : Heap} {g : Array GenState} {d : Drawn} {t : Nat} {os : OsState}
variable {nm q : Str} {C N : Addr} {bs bm tail : List Value} {hasD : Bool} {sn : List Str} {sub : List Value} {ab : Bool} {col : Option Bool} {dd : Option Addr} {k0 k1 k2 k3 k5 : Option Value} {B newId initId : String} {kws : List (Str × Value)}
theorem says (e : ∀ X : String, bm.contains (.type X) = tail.contains (.type X)) (X : String) {b : Bool} (i : tail.contains (.type X) = b) : (Value.ref C :: bm).contains (.type X) = b := by
  show ((Value.type X == Value.ref C) || bm.contains (.type X)) = b
  rw [e X, i]
  cases b <;> rfl
theorem look (F : ExcBaseFacts B newId initId tail) (e : ∀ X : String, bm.contains (.type X) = tail.contains (.type X)) (at_ : h.get? C = some (excClassObj nm q C N bs bm hasD sn sub ab col dd k0 k1 k2 k3 k5 newId))
    {Q : Unit → Shared → Prop} {E : Value → Shared → Prop} {M : Model} (go : Q () ⟨h, g, d, t, os⟩) : wpAny M A (checkBuiltinCall newId ⟨[.ref C], kws⟩) Q E ⟨h, g, d, t, os⟩ := by
  have s1 := says (C := C) e B F.hasB
  have s2 := F.noStar
  unfold checkBuiltinCall
  rw [F.newKind, F.newSplit, F.newRow]
  repeat' first
    | exact go
    | with_reducible refine wpAny_loadPart_at at_ ?_
    | (with_reducible refine wpAny_isSubtype_exc at_ ?_; rw [s1])
    | with_reducible refine wpAny_staticBase_exc at_ ?_
    | with_reducible refine wpAny_madeBy_exc at_ ?_
    | wp_step
    | simp only [bne_self_eq_false, Bool.false_eq_true, if_false]
theorem lays (F : ExcBaseFacts B newId initId tail) (e : ∀ X : String, bm.contains (.type X) = tail.contains (.type X)) (at_ : h.get? C = some (excClassObj nm q C N bs bm hasD sn sub ab col dd k0 k1 k2 k3 k5 newId))
    (go : R (.ok (.ret (.ref (h.objs.size + 1)))) ⟨(h.push (excTup [])).push (bare C h.objs.size), g, d, t, os⟩) : codeAny (model prog w) A (.builtin newId ⟨[.ref C], kws⟩) R ⟨h, g, d, t, os⟩ := by
  have s0 := F.ends
  have s1 := says (C := C) e B F.hasB
  have s2 := says (C := C) e "AttributeError" F.noAttr
  have s3 := says (C := C) e "NameError" F.noName
  refine codeAny_builtinAt F.entry (PySem.wpAt_bind ?_)
  show PySem.wpAt _ _ _ (stack >>= _) _ _ _
  refine PySem.wpAt_bind (PySem.wpAt_stack fun _ _ => PySem.wpAt_of_wpAny ?_)
  wp_walk
  rw [F.owner]
  refine PySem.wpAt_of_wpAny ?_
  repeat' first
    | with_reducible refine wpAny_madeHere_exc F.canon at_ ?_
    | with_reducible refine wpAny_loadPart_at at_ ?_
    | (with_reducible refine wpAny_isSubtype_exc at_ ?_; first | rw [s1] | rw [s2] | rw [s3])
    | wp_step
  show R _ ⟨_, _, _, _, _⟩
  rw [Heap.size_push]
  exact go
/-- type.__call__ of it -/
theorem made (F : ExcBaseFacts B newId initId tail) (e : ∀ X : String, bm.contains (.type X) = tail.contains (.type X)) (at_ : h.get? C = some (excClassObj nm q C N bs bm hasD sn sub ab col dd k0 k1 k2 k3 k5 newId)) {fI : Addr} {Q : Fin → Shared → Prop} {E : Value → Shared → Prop}
    (own : Looks (model prog w) h (typeLookup (.ref C) "__init__") (some (.ref fI))) (bnd : ∀ x, Looks (model prog w) h (bindSpecial (.ref fI) x) (.ref fI, [x]))
    (go : codeAny (model prog w) A (.call (.ref fI) ⟨[.ref (h.objs.size + 1)], kws⟩) (InitBack (h.objs.size + 1) fun r s' => match r with | .ok f => Q (.done f) s' | .error x => E x s') ⟨(h.push (excTup [])).push (bare C h.objs.size), g, d, t, os⟩) :
    wpAny (model prog w) A (Builtin.«type.__call__» ⟨[.ref C], kws⟩) Q E ⟨h, g, d, t, os⟩ := by
  repeat' first
    | with_reducible refine wpAny_loadPart_at at_ ?_
    | with_reducible refine wpAny_madeBy_exc at_ ?_
    | wp_step
  refine codeAny_call_builtin_code (Code.quiet_builtin _ F.quiet) (look F e at_ (lays F e at_ ?_))
  show wpAny _ _ _ _ _ ⟨_, _, _, _, _⟩
  generalize hh : (h.push (excTup [])).push (bare C h.objs.size) = h2 at go ⊢
  have keep : ∀ b o, h.get? b = some o → h2.get? b = some o := fun b o z => by rw [← hh]; exact Heap.get?_push_of_some _ (Heap.get?_push_of_some _ z)
  have new : h2.get? (h.objs.size + 1) = some (bare C h.objs.size) := by rw [← hh]; heap_get
  have c2 := keep _ _ at_
  have me : (Value.ref C :: bm).contains (.ref C) = true := by simp
  unfold isInstance
  repeat' first
    | with_reducible refine wpAny_loadPart_at new ?_
    | (with_reducible refine wpAny_isSubtype_exc c2 ?_; rw [me])
    | wp_step
  show wpAny _ _ (typeLookup (.ref C) "__init__") _ _ _
  refine (own.keeps keep).at (wpAny_holding (wpAny_bind (((bnd _).keeps keep).at (wpAny_bind (wpAny_call (codeAny_mono go fun r s' z => ?_))))))
  match r, z with
  | .error _, z => exact z
  | .ok (.ret v), z =>
    obtain ⟨rfl, z⟩ := z
    wp_walk
    exact z
/-- C(k = v, ..) -/
theorem called (F : ExcBaseFacts B newId initId tail) (e : ∀ X : String, bm.contains (.type X) = tail.contains (.type X)) (at_ : h.get? C = some (excClassObj nm q C N bs bm hasD sn sub ab col dd k0 k1 k2 k3 k5 newId)) {fI : Addr}
    (own : Looks (model prog w) h (typeLookup (.ref C) "__init__") (some (.ref fI))) (bnd : ∀ x, Looks (model prog w) h (bindSpecial (.ref fI) x) (.ref fI, [x]))
    (go : codeAny (model prog w) (A.under (.builtin "type.__call__" ⟨[.ref C], kws⟩)) (.call (.ref fI) ⟨[.ref (h.objs.size + 1)], kws⟩) (InitBack (h.objs.size + 1) R) ⟨(h.push (excTup [])).push (bare C h.objs.size), g, d, t, os⟩) :
    codeAny (model prog w) A (.call (.ref C) ⟨[], kws⟩) R ⟨h, g, d, t, os⟩ := by
  have l1 := tc_lookup
  have l2 := tc_bind (.ref C)
  have l3 := tc_sub
  have ty : (⟨h, g, d, t, os⟩ : Shared).TypeIs (.ref C) "type" := ⟨_, at_, rfl⟩
  refine codeAny_of_tree (show wpAny _ _ (callAny (.ref C) _) _ _ _ from ?_)
  repeat' first
    | assumption
    | with_reducible refine wpAny_loadPart_at at_ ?_
    | wp_step
  refine ⟨rfl, codeAny_call_builtin_at (Code.quiet_builtin _ (by decide +kernel)) entry_typeCall (check_slot tc_kind tc_split ?_ (tc_args _ _ _) (made F e at_ own bnd (codeAny_mono go fun r s' z => ?_)))⟩
  · intro A1 Q1 E1 s1 k1 go1
    obtain ⟨h1, _, _, _, _⟩ := s1
    have c1 : h1.get? C = _ := k1 _ _ at_
    have ty1 := c1
    unfold isInstance
    repeat' first
      | assumption
      | with_reducible refine wpAny_loadPart_at c1 ?_
      | wp_step
  · match r, z with
    | .error _, z => exact z
    | .ok (.ret _), z => exact z
variable {L : Addr} {h₀ : Heap} {m : Str → Option Value} {news : List (Addr × Obj)} {s : Shared} {K : Frag} {E : Value → Shared → Prop}
/-- the same, as the walk wants it: own class, own __init__, keywords alone -/
theorem call_ {fI : Addr} {Q : Value → Shared → Prop} (F : Fr h₀ L s.heap m) (X₀ : K.In h₀) (N' : News h₀ L s.heap news) (FB : ExcBaseFacts B newId initId tail) (own : findIn K (.ref C) "__init__" = some (some (.ref fI)))
    (is : excInitIn K C tail newId = true) (fn : isFn K (.ref fI) = true)
    (go : ∀ e t h', Fr h₀ L h' m → News h₀ L h' ((e, bare C t) :: (t, excTup []) :: news) → AllNe e news → AllNe t news → e ≠ t →
      codeAny (model prog w) (A.under (.builtin "type.__call__" ⟨[.ref C], kws⟩)) (.call (.ref fI) ⟨[.ref e], kws⟩) (InitBack e fun r s' => match r with | .ok (.ret v) => Q v s' | .ok _ => False | .error x => E x s') { s with heap := h' }) :
    wpAny (model prog w) A (call (.ref C) [] kws) Q E s := by
  have X := X₀.keeps F.keep
  obtain ⟨_, _, _, _, _, _, _, _, _, _, _, _, _, _, _, _, q⟩ := excInit_of X is
  obtain ⟨at_, e⟩ := q
  obtain ⟨oI, i1, i2⟩ := Option.map_eq_some_iff.mp (beq_iff_eq.mp (show (K.lookup fI).map (·.cls) == some (.type "function") from fn))
  obtain ⟨F2, N2, n1, n2⟩ := exc_two (o1 := excTup []) (o2 := bare C s.heap.objs.size) F N' rfl rfl
  have own' : Looks (model prog w) s.heap (typeLookup (.ref C) "__init__") (some (.ref fI)) := looks_findIn X own
  obtain ⟨hh, _, _, _, _⟩ := s
  exact wpAny_call (called FB e at_ own' (fun x => exc_bind (X _ _ i1) i2 x) (go _ _ _ F2 N2 n1 n2 (Nat.succ_ne_self _)))
end
end ErrKw

namespace EX
open L2 PyProof.Rows PySem.Spec PySem
/-- what the head tells of an own class of errors over a built-in one -/
structure XC (K : PySem.W.Frag) (C : Addr) (newId : String) (tail : List Value) : Prop where
  is : PySem.W.excInitIn K C tail newId = true
  over : PySem.W.excOver K C tail = true
  sa : PySem.W.findIn K (.ref C) "__setattr__" =
    some (some (.builtin "object.__setattr__"))
  rd : XfC K C
  keep : PySem.W.keepIn K (.ref C) = true
def xcB (K : PySem.W.Frag) (C : Addr) (newId : String) (tail : List Value) : Bool :=
  PySem.W.excInitIn K C tail newId && (PySem.W.excOver K C tail && (decide (PySem.W.findIn K (.ref C) "__setattr__" = some (some (.builtin "object.__setattr__"))) && (xfB K C && PySem.W.keepIn K (.ref C))))
theorem xcB_ok {K : PySem.W.Frag} {C : Addr} {newId : String} {tail : List Value} (h : xcB K C newId tail = true) : XC K C newId tail := by
  unfold xcB at h
  simp only [decide_eq_true_eq, Bool.and_eq_true] at h
  obtain ⟨a, b, c, d, e⟩ := h
  exact ⟨a, b, c, xfB_ok d, e⟩
section
variable {X : Cx} {pins : List (Addr × Obj)} {σ : L2.St} {H : Hp} {s : Shared} {a C : Addr} {f : Str} {y : V} {u : Value} {Q : Unit → Shared → Prop} {E : Value → Shared → Prop} {A : Around} {B newId : String} {tail : List Value}
/-- self.f = y, where self is new -/
theorem first (SF : StoreFacts B tail "object.__setattr__" "object") (T : XC X.K C newId tail) (tk : PySem.W.takerIn X.K C f = some none) (I : Inv X pins σ H s) (e : H a = some (exo a C none)) (ry : RelV y u)
    (go : ∀ dx s', H dx = none → dx ≠ a → Inv X pins σ (upd (upd H dx (exd dx [(f, y)])) a (exo a C (some dx))) s' → Q () s') : wpAny (model X.prog X.w) A (setAttr (.ref a) f u) Q E s := by
  obtain ⟨t1, at_⟩ := exo_at I.hok e
  refine PySem.W.set_plain (od := none) I.kIn ⟨at_, rfl, rfl, trivial⟩ T.sa (PySem.W.osa_openX (od := none) SF I.kIn ⟨at_, rfl, rfl, trivial⟩ T.over tk fun b => ?_)
  obtain ⟨cd, c1, c2⟩ := PySem.W.any_some T.rd.hdC
  obtain ⟨hp, g, d, t, os⟩ := s
  refine wpAny_bind (wpAny_pure (wpAny_bind (PySem.W.instanceDict_exc at_ (PySem.W.looks_clsIn I.kIn c1) c2 ?_)))
  show wpAny _ _ (Builtin.ObjectAttr.storeInDict hp.objs.size (.str f _) f u) _ _ _
  have la : a < hp.objs.size := Heap.lt_size at_
  have p1 : (hp.push (PySem.W.dictOf [] 0)).get? hp.objs.size = some (PySem.W.dictOf [] 0) := Heap.get?_push_size _ rfl
  refine HandSPX.store_in_new ⟨_, #[], 0, Heap.get?_update_of_ne _ (Nat.ne_of_lt la) p1, rfl, fun _ z => absurd z (by simp), fun _ => rfl⟩ fun h' tk' n1 sb => ?_
  -- as if the dict had been laid as it is in the end, and then the exception written
  obtain ⟨oD, eD⟩ : ∃ oD, h'.get? hp.objs.size = some oD := by
    obtain ⟨o, _, _, z, _⟩ := n1
    exact ⟨o, z⟩
  have alive : oD.isFreed = false := (Heap.get?_some_iff.mp eD).2
  have i1 : (hp.push oD).get? hp.objs.size = some oD := Heap.get?_push_size _ alive
  have rest : ∀ b, b ≠ a → b ≠ hp.objs.size → h'.get? b = hp.get? b := fun b n1 n2 =>
    (sb.2 b n2).trans ((Heap.get?_update_ne _ _ _ _ n1).trans (Heap.get?_push_ne _ _ _ n2))
  have J := I.laid (t' := t) (a := hp.objs.size) (o := exd hp.objs.size [(f, y)]) (h' := hp.push oD) (fun b o z => Heap.get?_push_of_some _ z) (Nat.le_refl _)
    (exd_ok (n1.at fun o z => by rw [i1, ← z, eD]) (relO_put (fs := []) ry fun _ => True.intro))
  have ea : upd H hp.objs.size (exd hp.objs.size [(f, y)]) a = some (exo a C none) := (upd_ne (Nat.ne_of_lt la)).trans e
  have new : h'.get? a = some ({ cls := .ref C, dict := some hp.objs.size, data := .fields #[.ref t1, .none, .none, .none, .bool false, .none] } : Obj) :=
    (sb.2 a (Nat.ne_of_lt la)).trans (Heap.get?_update_self _ (Heap.get?_push_of_some _ at_) rfl)
  have J2 := J.write (t' := tk') (x := a) (e := a) (o := exo a C (some hp.objs.size)) (h' := h') (by rw [ea]; exact True.intro) (.inl rfl)
    (fun b o n z => by
      rcases Heap.get?_push_cases z with ⟨rfl, rfl⟩ | z
      · exact eD
      · exact (rest b n (Nat.ne_of_lt (Heap.lt_size z))).trans z) ⟨_, new⟩ (exo_ok new)
  exact go _ _ (I.hok.fresh (Nat.le_refl _)) (Nat.ne_of_gt la) J2
/-- self.f = e of a new exception -/
def tFirst (K : PySem.W.Frag) (newId : String) (tail : List Value) (f : Str) (te to : TE) : TS := fun D σ H => te σ H fun y H1 => to σ H1 fun x H2 => ∃ a C, x = V.ref a ∧ XC K C newId tail ∧ PySem.W.takerIn K C f = some none ∧ H2 a = some (exo a C none) ∧
  ∀ dx, H2 dx = none → dx ≠ a → D.nx σ (upd (upd H2 dx (exd dx [(f, y)])) a (exo a C (some dx)))
theorem ps_first {e o : Expr} {te to : TE} {q pos : Pos} (SF : StoreFacts B tail "object.__setattr__" "object") (he : PE X e te) (ho : PE X o to) (sw : swapsWith e (some (.Attribute o f q)) pos.line X.env = pure false := by rfl) :
    PS X (.Assign [.Attribute o f q] e pos) (tFirst X.K newId tail f te to) where
  run := by
    intro pins s σ H D I h
    refine plainObj_wpAny_Assign_Attribute (thn (he.run pins s σ H _ I h) fun v s1 hv => ?_) sw
    obtain ⟨y, H1, I1, ry, h1⟩ := hv
    refine thn (ho.run pins s1 σ H1 _ I1 h1) fun v2 s2 hv2 => ?_
    obtain ⟨_, H2, I2, rx, a, C, rfl, T, tk, e2, h2⟩ := hv2
    cases rx
    exact first SF T tk I2 e2 ry fun dx s3 n1 n2 J => ⟨σ, _, J, h2 dx n1 n2⟩
/-- what an __init__ that keeps one argument promises -/
def spIni (K : PySem.W.Frag) (newId : String) (tail : List Value) (f : Str) : Sp := fun vs H Q _ => ∃ a C v, vs = [V.ref a, v] ∧ XC K C newId tail ∧ PySem.W.takerIn K C f = some none ∧ H a = some (exo a C none) ∧
  ∀ dx, H dx = none → dx ≠ a → Q .non (upd (upd H dx (exd dx [(f, v)])) a (exo a C (some dx)))
end
section
variable {P : Program} {w : World} {K : PySem.W.Frag} {mg : Str → Option Value} {base : Heap} {B newId : String} {tail : List Value}
theorem ini {st : Stmt} {q x f : Str} {p1 p2 p3 p4 : Pos} {fI : Addr} {fd : FuncData} (sc : FnScope ["self", x] ["self", x] (defScope st)) (v1 : Vis (defScope st) "self") (v2 : Vis (defScope st) x) (d1 : (x == ("__debug__" : Str)) = false) (d2 : (x == ("__classdict__" : Str)) = false)
    (hb : defBody st = [.Assign [.Attribute (.Name "self" p1) f p2] (.Name x p3) p4]) (F : FunD K "__init__" q (defArgs st) (defBody st) (defScope st) [] [] fI fd) (SF : StoreFacts B tail "object.__setattr__" "object") :
    FnOk P w K mg base CX0 1 fI fd ["self", x] (spIni K newId tail f) := by
  refine F.ok sc (fun vs H Q E h => ?_) fun cdv A outer s H vs Q E hr h => ⟨tFirst K newId tail f (tVar 1) (tVar 0), ?_, ?_⟩
  · obtain ⟨_, _, _, rfl, _⟩ := h
    rfl
  · rw [hb]
    exact PSs.nox (pss_one (ps_first SF (pv 1 rfl v2 d1 d2) (pv 0 rfl v1)))
  · obtain ⟨a, C, v, rfl, T, tk, e, go⟩ := h
    exact ⟨v, rfl, .ref a, rfl, a, C, rfl, T, tk, e, go⟩
end
/-! ### C(..): laid, then its __init__ -/
section
variable {X : Cx} {pins : List (Addr × Obj)} {σ : L2.St} {B newId initId : String} {tail : List Value} {C fI : Addr} {k : Nat} {fd : FuncData} {ps : List Str} {sp : Sp}
/-- what is asked of the arguments vs -/
def rNew (C : Addr) (sp : Sp) : List V → Hp → VK → Prop := fun vs H Q => ∀ a, H a = none → sp (.ref a :: vs) (upd H a (exo a C none)) (fun v H2 => v = .non ∧ Q (.ref a) H2) fun _ _ _ => False
theorem inside {H : Hp} {Q : VK} {us ws : List Value} {vs : List V} {kws : List (Str × Value)} {hp : Heap} {g : Array GenState} {d : Drawn} {t : Nat} {os : OsState} {args : List Value} (F : FnOk X.prog X.w X.K X.mg X.base CX0 k fI fd ps sp) (hr : Room (k + 1) X.A)
    (bt : ∀ (s : Shared) (e : Value), X.K.In s.heap → BindsTo s fd ⟨e :: us, kws⟩ (ps.zip (e :: ws))) (I : Inv X pins σ H ⟨hp, g, d, t, os⟩) (r : Vals vs ws) (q : rNew C sp vs H Q) :
    codeAny (model X.prog X.w) (X.A.under (.builtin "type.__call__" ⟨.ref C :: us, kws⟩)) (.call (.ref fI) ⟨.ref (hp.objs.size + 1) :: us, kws⟩)
      (PySem.W.InitBack (hp.objs.size + 1) fun r s' => match r with | .ok (.ret v) => EP X pins σ Q v s' | .ok _ => False | .error x => X.xe x s') ⟨(hp.push (PySem.W.excTup args)).push (PySem.W.excObj C hp.objs.size none .none), g, d, t, os⟩ := by
  have up : hp.objs.size ≤ hp.objs.size + 1 := Nat.le_succ _
  have at_ : ((hp.push (PySem.W.excTup args)).push (PySem.W.excObj C hp.objs.size none .none)).get? (hp.objs.size + 1) = some (PySem.W.excObj C hp.objs.size none .none) := by heap_get
  have J := I.laid (t' := t) (a := hp.objs.size + 1) (o := exo (hp.objs.size + 1) C none) (h' := (hp.push (PySem.W.excTup args)).push (PySem.W.excObj C hp.objs.size none .none))
    (fun b o z => Heap.get?_push_of_some _ (Heap.get?_push_of_some _ z)) up (exo_ok at_)
  have rr : Vals (V.ref (hp.objs.size + 1) :: vs) (Value.ref (hp.objs.size + 1) :: ws) := .cons rfl r
  refine codeAny_mono (F.run _ X.stack _ _ _ _ _ _ _ (hr.make C us kws) (J.env0.make C us kws) (bt _ _ J.kIn) rr (q _ (I.hok.fresh up))) fun res s' z => ?_
  match res, z with
  | .ok (.ret u), z =>
    obtain ⟨v, H2, J2, rv, rfl, q2⟩ := J.after z
    cases rv
    exact ⟨rfl, .ref _, H2, J2, rfl, q2⟩
variable {e : Expr} {es : List Expr} {kws : List Keyword} {x : Str} {ta : TA} {p pos : Pos}
/-- C(e, ..) -/
theorem pe_new (FB : ExcBaseFacts B newId initId tail) (T : XC X.K C newId tail) (iC : PySem.W.findIn X.K (.ref C) "__init__" = some (some (.ref fI))) (tI : PySem.W.typeIn X.K (.ref fI) = some (.type "function")) (F : FnOk X.prog X.w X.K X.mg X.base CX0 k fI fd ps sp) (hr : Room (k + 1) X.A)
    (hb : Binds X.K fd ps []) (hg : Gl X x) (hm : X.mg x = some (.ref C)) (ha : PA X (e :: es) ta) (hd : (x == ("__debug__" : Str)) = false := by decide)
    (hpl : (backTo pos (starEach es X.env)).any (·.1) = false := by rfl) (he : starEach (e :: es) X.env = (false, eval e X.env) :: starEach es X.env := by rfl) :
    PE X (.Call (.Name x p) (e :: es) [] pos) (fun σ H Q => ta σ H (fun vs H1 => vs.length ≤ 1000 ∧ rNew C sp vs H1 Q)) where
  run := by
    intro pins s σ H Q I h
    refine wpAny_Call_Name_kw (ld_glob I hg hm (PySem.W.callWith_K (h₀ := X.base) I.ok.mod.kin T.keep (thn (ha.run pos pins s σ H _ I h) fun us s1 z => ?_) he hpl) hd)
    obtain ⟨vs, H1, J, r, l, q⟩ := z
    refine ⟨J.kIn, ?_⟩
    obtain ⟨_, _, _, _, _, _, _, _, _, _, _, _, _, _, _, _, c1, c2⟩ := PySem.W.excInit_of J.kIn T.is
    obtain ⟨hp, _, _, _, _⟩ := s1
    have small : us.length ≤ sizeLine := by rw [← r.length, sizeLine_eq]; omega
    have full : ∀ a : Addr, H1 a = none → vs.length + 1 = ps.length := fun a na => F.len _ _ _ _ (q a na)
    have fresh : H1 hp.objs.size = none := J.hok.fresh (Nat.le_refl _)
    refine wpAny_call (codeAny_mono (PySem.PX.call_own FB c2 c1 (PySem.W.looks_findIn J.kIn iC) (fun self => PySem.W.bind_fn J.kIn self tI) small (inside F hr (ws := us) (fun s2 e2 k2 => ?_) J r q)) fun res s2 z => ?_)
    · have := hb s2 (e2 :: us) k2 (by rw [List.append_nil, List.length_cons, ← r.length]; exact full _ fresh)
      rw [List.append_nil] at this
      exact this
    · exact z
/-- C(k = e) -/
theorem pe_newK {y : Str} {tk : TA} (FB : ExcBaseFacts B newId initId tail) (T : XC X.K C newId tail) (iC : PySem.W.findIn X.K (.ref C) "__init__" = some (some (.ref fI))) (tI : PySem.W.typeIn X.K (.ref fI) = some (.type "function")) (F : FnOk X.prog X.w X.K X.mg X.base CX0 k fI fd ps sp) (hr : Room (k + 1) X.A)
    (bk : ∀ (s : Shared) (e w : Value), BindsTo s fd ⟨[e], [(y, w)]⟩ (ps.zip [e, w])) (hg : Gl X x) (hm : X.mg x = some (.ref C)) (hk : PK X kws tk) (hd : (x == ("__debug__" : Str)) = false := by decide)
    (h1 : (backToKw pos (keywordEach kws X.env)).all (·.1.isSome) = true := by rfl) (h2 : (backToKw pos (keywordEach kws X.env)).filterMap (·.1) = [y] := by rfl)
    (h3 : ((backTo pos (starEach [] X.env)).any (·.1) || (backToKw pos (keywordEach kws X.env)).any (·.1.isNone)) = false := by rfl) :
    PE X (.Call (.Name x p) [] kws pos) (fun σ H Q => tk σ H (fun vs H1 => vs.length = 1 ∧ rNew C sp vs H1 Q)) where
  run := by
    intro pins s σ H Q I h
    refine wpAny_Call_Name_kw (ld_glob I hg hm (PySem.W.callWith_KW0 (h₀ := X.base) I.ok.mod.kin T.keep h1 (thn (hk.run pos pins s σ H _ I h) fun us s1 z => ?_) h3) hd)
    obtain ⟨vs, H1, J, r, l, q⟩ := z
    refine ⟨J.kIn, ?_⟩
    rw [h2]
    obtain ⟨_, _, _, _, _, _, _, _, _, _, _, _, _, _, _, _, c1, c2⟩ := PySem.W.excInit_of J.kIn T.is
    obtain ⟨hp, _, _, _, _⟩ := s1
    obtain ⟨u, rfl⟩ : ∃ u, us = [u] := by
      have n : us.length = 1 := r.length.symm.trans l
      match us, n with
      | [u], _ => exact ⟨u, rfl⟩
    exact wpAny_call (codeAny_mono (ErrKw.called FB c2 c1 (PySem.W.looks_findIn J.kIn iC) (fun self => PySem.W.bind_fn J.kIn self tI) (inside F hr (ws := [u]) (us := []) (fun s2 e2 _ => bk s2 e2 u) J r q)) fun res s2 z => z)
/-- C() -/
theorem pe_new0 (FB : ExcBaseFacts B newId initId tail) (T : XC X.K C newId tail) (iC : PySem.W.findIn X.K (.ref C) "__init__" = some (some (.ref fI))) (tI : PySem.W.typeIn X.K (.ref fI) = some (.type "function")) (F : FnOk X.prog X.w X.K X.mg X.base CX0 k fI fd ["self"] sp) (hr : Room (k + 1) X.A)
    (hb : Binds X.K fd ["self"] []) (hg : Gl X x) (hm : X.mg x = some (.ref C)) (hd : (x == ("__debug__" : Str)) = false := by decide) :
    PE X (.Call (.Name x p) [] [] pos) (fun _ H Q => rNew C sp [] H Q) where
  run := by
    intro pins s σ H Q J q
    refine wpAny_Call_Name_kw (ld_glob J hg hm (PySem.W.callWith_K0 J.kIn T.keep ?_) hd)
    obtain ⟨_, _, _, _, _, _, _, _, _, _, _, _, _, _, _, _, c1, c2⟩ := PySem.W.excInit_of J.kIn T.is
    obtain ⟨hp, _, _, _, _⟩ := s
    refine wpAny_call (codeAny_mono (PySem.PX.call_own FB c2 c1 (PySem.W.looks_findIn J.kIn iC) (fun self => PySem.W.bind_fn J.kIn self tI) (Nat.zero_le _) (inside F hr (ws := []) (us := []) (fun s2 e2 k2 => ?_) J .nil q)) fun res s2 z => z)
    exact hb s2 [e2] k2 rfl
/-! ### Base.__init__(self) -/
def rUp (K : PySem.W.Frag) (newId : String) (tail : List Value) : List V → Hp → VK → Prop := fun vs H Q => ∃ a C, vs = [V.ref a] ∧ XC K C newId tail ∧ H a = some (exo a C none) ∧ Q .non H
def spUp (K : PySem.W.Frag) (newId : String) (tail : List Value) : Sp := fun vs H Q _ => rUp K newId tail vs H Q
theorem call_up (FB : ExcBaseFacts B newId initId tail) : CallR X (.builtin initId) (rUp X.K newId tail) := by
  intro pins s σ H
  intro xs us Q I r q
  obtain ⟨a, C, rfl, T, e, q⟩ := q
  obtain ⟨_, _, _, _, _, _, _, _, _, _, _, _, _, _, _, _, c1, c2⟩ := PySem.W.excInit_of I.kIn T.is
  obtain ⟨t1, at_⟩ := exo_at I.hok e
  match us, r with
  | [_], .cons rfl .nil =>
    obtain ⟨hp, g, d, t, os⟩ := s
    refine wpAny_call (PySem.PX.init_base FB c2 c1 at_ (Nat.zero_le _) fun h' t2 keep new => ?_)
    have J := I.write (t' := t) (x := a) (e := a) (o := exo a C none) (h' := h') (by rw [e]; exact True.intro) (.inl rfl) keep ⟨_, new⟩ (exo_ok new)
    have same : upd H a (exo a C none) = H := by
      funext b
      unfold upd
      split
      · next z => rw [z, e]
      · rfl
    rw [same] at J
    exact ⟨.non, H, J, rfl, q⟩
/-- what the head tells of a class whose __init__ is called off it -/
def offB (K : PySem.W.Frag) (C f : Addr) : Bool := decide (PySem.W.specialIn K (.ref C) "__getattribute__" = some (some (.builtin "type.__getattribute__"))) && (PySem.W.readsIn K C (.type "type") && ((match PySem.W.findCls K (.ref C) (.type "type") "__init__" with | some (.val (.ref g)) => decide (g = f) | _ => false) && (PySem.W.handedIn (.ref f) && PySem.W.keepIn K (.ref f))))
theorem pe_off {CX : CXT} {p1 p2 p3 p4 : Pos} (o : offB X.K C fI = true) (F : FnOk X.prog X.w X.K X.mg X.base CX k fI fd ps sp) (hr : Room k X.A) (hb : Binds X.K fd ps [])
    (hx : Passes CX X fun _ _ _ => False) (hg : Gl X "NoAnswer") (hm : X.mg "NoAnswer" = some (.ref C)) (ha : PA X [.Name "self" p4] ta) {pl : Sem Bool}
    (hc : eval (.Call (.Attribute (.Name "NoAnswer" p1) "__init__" p2) [.Name "self" p4] [] p3) X.env = do { let ov ← eval (.Name "NoAnswer" p1) X.env; standAt p2.atName; let (f, first) ← holding [ov] (getMethod ov "__init__" pl); callWith p3 f first (backTo p3 (starEach [.Name "self" p4] X.env)) (backToKw p3 (keywordEach [] X.env)) } := by rfl)
    (he : starEach [.Name "self" p4] X.env = (false, eval (.Name "self" p4) X.env) :: starEach [] X.env := by rfl) :
    PE X (.Call (.Attribute (.Name "NoAnswer" p1) "__init__" p2) [.Name "self" p4] [] p3) (fun σ H Q => ta σ H (fun vs H1 => sp vs H1 Q (fun _ _ _ => False))) where
  run := by
    intro pins s σ H Q I h
    unfold offB at o
    simp only [decide_eq_true_eq, Bool.and_eq_true] at o
    obtain ⟨o1, o2, o3, o4, o5⟩ := o
    have o3 : PySem.W.findCls X.K (.ref C) (.type "type") "__init__" = some (.val (.ref fI)) := by
      split at o3
      · next e => rw [e, of_decide_eq_true o3]
      · cases o3
    refine PySem.W.methodCall_KW (ld_glob I hg hm (PySem.W.method_cls I.kIn o1 (PySem.W.cls_value I.kIn o2 o3 o4 ?_))) hc
    have J := I.tok (s.toks + 1)
    refine PySem.W.callWith_K (first := []) (h₀ := X.base) I.ok.mod.kin o5 (thn (ha.run _ pins _ σ H _ J h) fun us s1 z => ?_) he
    obtain ⟨vs, H1, J1, r, q⟩ := z
    exact ⟨J1.kIn, run_fn F hr hb .nil hx J1 r (by rw [List.append_nil]; exact q)⟩
/-! ### reading, asking -/
/-- a.f of such a one -/
def tFld (K : PySem.W.Frag) (f : Str) (te : TE) : TE := fun σ H Q => te σ H fun x H1 => ∃ a C dx fs v, x = V.ref a ∧ XfC K C ∧ PySem.W.findIn K (.ref C) f = some none ∧ H1 a = some (exo a C (some dx)) ∧ H1 dx = some (exd dx fs) ∧ fs.lookup f = some v ∧ Q v H1
theorem pe_fld {te : TE} {f : Str} (he : PE X e te) (hb : attributeBase e f X.env (eval e X.env) = eval e X.env := by rfl) : PE X (.Attribute e f pos) (tFld X.K f te) where
  run := by
    intro pins s σ H Q I h
    refine attr_of hb (thn (he.run pins s σ H _ I h) fun u s1 z => ?_)
    obtain ⟨_, H1, J, r, a, C, dx, fs, v, rfl, T, no, e1, e2, l, q⟩ := z
    cases r
    obtain ⟨t1, at_⟩ := exo_at J.hok e1
    obtain ⟨mA, n1, rel⟩ := exd_at J.hok e2
    obtain ⟨od, i1, i2⟩ := lookIn_ns n1
    obtain ⟨w, w1, w2⟩ := RelO.some_of (v := v) (o := mA f) (by rw [← l]; exact rel f)
    exact HandSPX.exc_get (od := some od) J.kIn ⟨at_, rfl, rfl, i1⟩ T.ga T.gg T.exC (PySem.W.findObj_own T.hdC no rfl (by rw [i2, w1])) (handed_of w2) ⟨v, H1, J.tok _, w2, q⟩
/-- what isinstance wants of the class -/
def isB (K : PySem.W.Frag) (C : Addr) : Bool := (PySem.W.clsIn K C).isSome && (decide (PySem.W.findIn K (.ref C) "__class__" = some (some (.builtin "object.__class__"))) && (decide (PySem.W.specialIn K (.builtin "object.__class__") "__get__" = some (some (.builtin "getset_descriptor.__get__"))) &&
  (decide (PySem.W.takesIn K (.builtin "object.__class__") = some true) && decide (PySem.W.mroIn K C (.type "object") = some true))))
/-- an error that stands in the heap, its dict too -/
def Err (H : Hp) (a C : Addr) : Prop := H a = some (exo a C none) ∨ ∃ dx fs, H a = some (exo a C (some dx)) ∧ H dx = some (exd dx fs)
def rIsE (K : PySem.W.Frag) : List V → Hp → VK → Prop := fun xs H Q => ∃ a C c u b, xs = [V.ref a, c] ∧ Err H a C ∧ XfC K C ∧ isB K C = true ∧ ClsV c u ∧ PySem.W.kitOne K (.ref C) u = some b ∧ Q (.bl b) H
theorem call_isE_ : CallR X (.builtin "isinstance") (rIsE X.K) := by
  intro pins s σ H
  intro xs us Q I r q
  obtain ⟨a, C, c, u, b, rfl, er, T, is, cl, k, q⟩ := q
  unfold isB at is
  simp only [Bool.and_eq_true, decide_eq_true_eq] at is
  obtain ⟨k1, k2, k3, k4, k5⟩ := is
  obtain ⟨ox, od, inst⟩ : ∃ ox od, PySem.W.InstAt s.heap a ox C od := by
    rcases er with e1 | ⟨dx, fs, e1, e2⟩
    · obtain ⟨t1, at_⟩ := exo_at I.hok e1
      exact ⟨_, none, at_, rfl, rfl, trivial⟩
    · obtain ⟨t1, at_⟩ := exo_at I.hok e1
      obtain ⟨mA, n1, _⟩ := exd_at I.hok e2
      obtain ⟨od, i1, _⟩ := lookIn_ns n1
      exact ⟨_, some od, at_, rfl, rfl, i1⟩
  match us, r with
  | [_, _], .cons rfl (.cons r2 .nil) =>
    cases cl.eq r2
    exact PySem.W.kia_one (PySem.W.kitx_exc k1 T.ga T.gg T.exC k2 k3 k4 k5) I.kIn inst k (fun z => nomatch z) fun tk => ⟨.bl b, H, I.tok tk, rfl, q⟩
/-- repr of a list (of lists ..) of plain values -/
def rRepr (K : PySem.W.Frag) : List V → Hp → VK → Prop := fun xs H Q => ∃ a d, xs = [V.ref a] ∧ Dp K H (.ref a) d ∧ d.showable = true ∧ d.hasDict = false ∧ d.depth ≤ 20 ∧ d.shown.length ≤ sizeLine ∧ Q (.str d.shown) H
theorem call_repr_ (hg : X.A.guards = some []) (hu : X.A.units + 64 < cLine) : CallR X (.builtin "repr") (rRepr X.K) := by
  intro pins s σ H
  intro xs us Q I r q
  obtain ⟨a, d, rfl, dp, sh, nd, dd, sz, q⟩ := q
  match us, r with
  | [_], .cons rfl .nil =>
    obtain ⟨as, rd⟩ := Dp.reads I d (.ref a) (.ref a) dp rfl
    exact repr_of_reads' rd sh (PyData.noDict_hsm nd) hg (by omega) (fun _ _ e => e) (fun h' u tk k => ⟨.str _, H, I.kept k, ⟨_, rfl⟩, q⟩) sz
end
end EX

namespace At
open L2 PyProof.Rows PySem.Spec PySem
/-! ### steps of a reading -/
abbrev St' := List (Option V)
section
variable {K : PySem.W.Frag} {σ : L2.St} {H : Hp} {D : Ends} {Q : VK} {QT : Bool → Hp → Prop} {QA : List V → Hp → Prop} {v x y : V} {ta tb tc te : TE} {t u : TT} {tr : TA} {s1 s2 : TS} {i : Nat} {r r' : R2} {g : TG} {J : It} {R : It → Hp → Prop}
theorem go_var (h : σ[i]? = some (some v)) (q : Q v H) : tVar i σ H Q := ⟨v, h, q⟩
theorem go_c (q : Q v H) : tC v σ H Q := q
theorem go_op (h : ta σ H fun x H1 => tb σ H1 fun y H2 => r x y H2 Q) : tOp r ta tb σ H Q := h
theorem go_un {r : V → Hp → VK → Prop} (h : ta σ H fun x H1 => r x H1 Q) : tUn r ta σ H Q := h
theorem go_rI0 {f : Int → Int → V} {a b : Int} (q : Q (f a b) H) : rI0 f (.int a) (.int b) H Q := ⟨a, b, rfl, rfl, q⟩
theorem go_rI {C : Int → Int → Prop} {f : Int → Int → V} {a b : Int} (c : C a b) (q : Q (f a b) H) : rI C f (.int a) (.int b) H Q := ⟨a, b, rfl, rfl, c, q⟩
theorem go_rU {f : Int → V} {a : Int} (q : Q (f a) H) : rU f (.int a) H Q := ⟨a, rfl, q⟩
theorem go_rEqI {a b : Int} (q : Q (.bl (decide (a = b))) H) : rEq (.int a) (.int b) H Q := ⟨rfl, by
  have e : decide (V.int a = V.int b) = decide (a = b) := by
    by_cases h : a = b
    · rw [h]; simp
    · rw [decide_eq_false h, decide_eq_false (fun z => h (V.int.inj z))]
  rw [e]; exact q⟩
theorem go_rNeI {a b : Int} (q : Q (.bl (!decide (a = b))) H) : rNe (.int a) (.int b) H Q := ⟨rfl, by
  have e : decide (V.int a = V.int b) = decide (a = b) := by
    by_cases h : a = b
    · rw [h]; simp
    · rw [decide_eq_false h, decide_eq_false (fun z => h (V.int.inj z))]
  rw [e]; exact q⟩
theorem go_rEqS {a b : Str} (q : Q (.bl (decide (a = b))) H) : rEq (.str a) (.str b) H Q := ⟨rfl, by
  have e : decide (V.str a = V.str b) = decide (a = b) := by
    by_cases h : a = b
    · rw [h]; simp
    · rw [decide_eq_false h, decide_eq_false (fun z => h (V.str.inj z))]
  rw [e]; exact q⟩
theorem go_rNeS {a b : Str} (q : Q (.bl (!decide (a = b))) H) : rNe (.str a) (.str b) H Q := ⟨rfl, by
  have e : decide (V.str a = V.str b) = decide (a = b) := by
    by_cases h : a = b
    · rw [h]; simp
    · rw [decide_eq_false h, decide_eq_false (fun z => h (V.str.inj z))]
  rw [e]; exact q⟩
theorem go_truL {p : Addr} {xs : List V} (h : SqL K H p xs) (q : QT (!xs.isEmpty) H) : ∃ k, TruV K (.ref p) H k ∧ QT k H := ⟨_, .inl ⟨xs, h, rfl⟩, q⟩
theorem go_truT {p : Addr} {xs : List V} (h : SqT K H p xs) (q : QT (!xs.isEmpty) H) : ∃ k, TruV K (.ref p) H k ∧ QT k H := ⟨_, .inr (.inl ⟨xs, h, rfl⟩), q⟩
theorem go_test (h : ta σ H fun x H' => ∃ k, x = .bl k ∧ QT k H') : tTest ta σ H QT := h
theorem go_tB (h : ta σ H fun x H' => ∃ k, x = .bl k ∧ QT k H') : tB ta σ H QT := h
theorem go_bl {b : Bool} (q : QT b H) : ∃ k, V.bl b = .bl k ∧ QT k H := ⟨b, rfl, q⟩
theorem go_and (h : t σ H fun c H1 => if c = true then u σ H1 QT else QT false H1) : tAnd t u σ H QT := h
theorem go_or (h : t σ H fun c H1 => if c = true then QT true H1 else u σ H1 QT) : tOr t u σ H QT := h
theorem go_not (h : t σ H fun c H1 => QT (!c) H1) : tNot t σ H QT := h
theorem go_andV (h : ta σ H fun x H1 => ∃ c, x = .bl c ∧ if c = true then tb σ H1 Q else Q (.bl false) H1) : tAndV ta tb σ H Q := h
theorem go_orV (h : ta σ H fun x H1 => ∃ c, x = .bl c ∧ if c = true then Q (.bl true) H1 else tb σ H1 Q) : tOrV ta tb σ H Q := h
theorem go_notV (h : ta σ H fun x H1 => ∃ c, x = .bl c ∧ Q (.bl (!c)) H1) : tNotV ta σ H Q := h
theorem go_tIf (h : t σ H fun c H1 => if c = true then ta σ H1 Q else tb σ H1 Q) : tIf t ta tb σ H Q := h
theorem go_chain (h : ta σ H fun x H1 => tb σ H1 fun y H2 => r x y H2 fun z H3 => ∃ k, z = .bl k ∧ (if k = true then tc σ H3 fun w' H4 => r' y w' H4 Q else Q (.bl false) H3)) : tChain r r' ta tb tc σ H Q := h
theorem go_cons (h : ta σ H fun x H1 => tr σ H1 fun xs H2 => QA (x :: xs) H2) : tCons ta tr σ H QA := h
theorem go_nil (q : QA [] H) : tNil σ H QA := q
theorem go_cb {r : List V → Hp → VK → Prop} (h : tr σ H fun vs H1 => r vs H1 Q) : tCB r tr σ H Q := h
theorem go_call {sp : Sp} {E : XK} (h : tr σ H fun vs H1 => sp vs H1 Q E) : tCall sp [] E tr σ H Q := by
  have e : (fun vs H1 => sp (vs ++ []) H1 Q E) = (fun vs H1 => sp vs H1 Q E) := by
    funext vs H1
    rw [List.append_nil]
  show tr σ H fun vs H1 => sp (vs ++ []) H1 Q E
  rw [e]
  exact h
theorem go_tup (h : tr σ H fun xs H1 => xs.length ≤ sizeLine ∧ ∀ p, H1 p = none → Q (.ref p) (upd H1 p (.tup xs))) : tTup tr σ H Q := h
theorem go_lst (h : tr σ H fun xs H1 => xs.length ≤ sizeLine ∧ ∀ p, H1 p = none → Q (.ref p) (upd H1 p (.lst xs))) : tLst tr σ H Q := h
theorem go_sl {r : V → Option Int → Option Int → Hp → VK → Prop} {tl th : TO} (h : te σ H fun x H1 => tl σ H1 fun l H2 => th σ H2 fun u H3 => r x l u H3 Q) : tSl r te tl th σ H Q := h
theorem go_noPart {QO : Option Int → Hp → Prop} (q : QO none H) : tNoPart σ H QO := q
theorem go_part {QO : Option Int → Hp → Prop} (h : te σ H fun x H1 => ∃ i, x = .int i ∧ QO (some i) H1) : tPart te σ H QO := h
theorem go_int {P : Int → Prop} {i : Int} (q : P i) : ∃ j, V.int i = V.int j ∧ P j := ⟨i, rfl, q⟩
theorem go_rIxT {p : Addr} {xs : List V} {j : Int} (h : SqT K H p xs) (e : atI xs j = some v) (q : Q v H) : rIxT K (.ref p) (.int j) H Q := ⟨p, xs, j, v, rfl, rfl, h, e, q⟩
theorem go_rIxL {p : Addr} {xs : List V} {j : Int} (h : SqL K H p xs) (e : atI xs j = some v) (q : Q v H) : rIxL K (.ref p) (.int j) H Q := ⟨p, xs, j, v, rfl, rfl, h, e, q⟩
/-- statements -/
theorem go_seq (h : s1 { D with nx := s2 D } σ H) : tSeq s1 s2 D σ H := h
theorem go_cut (Mid : L2.St → Hp → Prop) (h1 : s1 { D with nx := Mid } σ H) (h2 : ∀ σ' H', Mid σ' H' → s2 D σ' H') : Evl.tCut s1 s2 D σ H := ⟨Mid, h1, h2⟩
theorem go_next (q : D.nx σ H) : tNext D σ H := q
theorem go_brk (q : D.bk σ H) : tBreak D σ H := q
theorem go_cont (q : D.ct σ H) : tCont D σ H := q
theorem go_drop (h : te σ H fun _ H1 => D.nx σ H1) : tDrop te D σ H := h
theorem go_ret (h : te σ H D.rt) : tRet te D σ H := h
theorem go_retN (h : D.rt .non H) : tRetN D σ H := h
theorem go_ifS (h : t σ H fun b H1 => if b = true then s1 D σ H1 else s2 D σ H1) : tIfS t s1 s2 D σ H := h
theorem go_set (h : te σ H fun x H1 => D.nx (σ.set i (some x)) H1) : tAsg te (gName i) D σ H := h
theorem go_asg (h : te σ H fun x H1 => g x σ H1 D.nx) : tAsg te g D σ H := h
theorem go_seq_set (h : te σ H fun x H1 => s2 D (σ.set i (some x)) H1) : tSeq (tAsg te (gName i)) s2 D σ H := h
theorem go_seq_asg (h : te σ H fun x H1 => g x σ H1 (s2 D)) : tSeq (tAsg te g) s2 D σ H := h
theorem go_seq_drop (h : te σ H fun _ H1 => s2 D σ H1) : tSeq (tDrop te) s2 D σ H := h
theorem go_seq_if (h : t σ H fun b H1 => if b = true then s1 { D with nx := s2 D } σ H1 else s2 D σ H1) : tSeq (tIfS t s1 tNext) s2 D σ H := h
theorem go_aug {ti : TIp} (hx : σ[i]? = some (some x)) (h : te σ H fun y H1 => ti x y H1 fun z H2 => D.nx (σ.set i (some z)) H2) : tAug i te ti D σ H := ⟨x, hx, h⟩
theorem go_m1 {r : V → List V → Hp → VK → Prop} {a : Str} (h : te σ H fun y H2 => r (.str a) [y] H2 Q) : tM1 r (tC (.str a)) te σ H Q := ⟨⟨a, rfl⟩, h⟩
theorem go_revL (h : te σ H fun x H1 => ∃ a xs, x = .ref a ∧ SqL K H1 a xs ∧ ∀ p, H1 p = none → Q (.ref p) (upd H1 p (.lst xs.reverse))) : tRevL K te σ H Q := h
theorem go_augS {to ti : TE} {tget : V → V → Hp → VK → Prop} {tip : TIp} {tset : TSet} (h : to σ H fun o H1 => ti σ H1 fun i H2 => tget o i H2 fun x H3 => te σ H3 fun y H4 => tip x y H4 fun z H5 => tset o i z H5 fun H6 => D.nx σ H6) : tAugS to ti te tget tip tset D σ H := h
theorem go_ipI {f : Int → Int → Int} {a b : Int} (q : Q (.int (f a b)) H) : ipI f (.int a) (.int b) H Q := ⟨a, b, rfl, rfl, q⟩
theorem go_gName {QS : L2.St → Hp → Prop} (q : QS (σ.set i (some v)) H) : gName i v σ H QS := q
theorem go_gTup {QS : L2.St → Hp → Prop} {a : Addr} {xs : List V} {n : Nat} {t : TGs} (h : SqT K H a xs) (hl : xs.length = n) (q : t xs σ H QS) : gTup K n t (.ref a) σ H QS := ⟨a, xs, rfl, h, hl, q⟩
theorem go_gUnl {QS : L2.St → Hp → Prop} {a : Addr} {xs : List V} {n : Nat} {t : TGs} (h : SqL K H a xs) (hl : xs.length = n) (q : t xs σ H QS) : gUnl K n t (.ref a) σ H QS := ⟨a, xs, rfl, h, hl, q⟩
theorem go_gCons {QS : L2.St → Hp → Prop} {xs : List V} {t : TG} {u : TGs} (q : t v σ H fun σ' H' => u xs σ' H' QS) : gCons t u (v :: xs) σ H QS := ⟨v, xs, rfl, q⟩
theorem go_gNil {QS : L2.St → Hp → Prop} (q : QS σ H) : gNil [] σ H QS := ⟨rfl, q⟩
theorem go_gSub {QS : L2.St → Hp → Prop} {to ti : TE} {t : TSet} (h : to σ H fun o H1 => ti σ H1 fun i H2 => t o i v H2 fun H3 => QS σ H3) : gSub to ti t v σ H QS := h
theorem go_rSetL {QH : Hp → Prop} {p : Addr} {xs : List V} {k : Int} {j : Nat} (h : H p = some (.lst xs)) (e : ixN xs.length k = some j) (q : QH (upd H p (.lst (xs.set j v)))) : rSetL (.ref p) (.int k) v H QH := ⟨p, xs, k, j, rfl, rfl, h, e, q⟩
theorem go_par {j k : Nat} (h : tr σ H fun vs H1 => ∃ v w, vs = [v, w] ∧ D.nx ((σ.set j (some v)).set k (some w)) H1) : tPar j k tr D σ H := h
theorem go_par3 {j k l : Nat} (h : tr σ H fun vs H1 => ∃ u v w, vs = [u, v, w] ∧ D.nx (((σ.set j (some u)).set k (some v)).set l (some w)) H1) : tPar3 j k l tr D σ H := h
theorem go_two {P : V → V → Prop} {a b : V} (q : P a b) : ∃ v w, [a, b] = [v, w] ∧ P v w := ⟨a, b, rfl, q⟩
theorem go_three {P : V → V → V → Prop} {a b c : V} (q : P a b c) : ∃ u v w, [a, b, c] = [u, v, w] ∧ P u v w := ⟨a, b, c, rfl, q⟩
theorem go_ite {p : Prop} [Decidable p] {A B : Prop} (h1 : p → A) (h2 : ¬ p → B) : if decide p = true then A else B := by
  by_cases h : p
  · rw [if_pos (decide_eq_true h)]; exact h1 h
  · rw [if_neg (by rw [decide_eq_false h]; exact Bool.false_ne_true)]; exact h2 h
theorem go_iteN {p : Prop} [Decidable p] {A B : Prop} (h1 : ¬ p → A) (h2 : p → B) : if (!decide p) = true then A else B := by
  by_cases h : p
  · rw [if_neg (by rw [decide_eq_true h]; exact Bool.false_ne_true)]; exact h2 h
  · rw [if_pos (by rw [decide_eq_false h]; rfl)]; exact h1 h
theorem go_iteB {b : Bool} {A B : Prop} (h1 : b = true → A) (h2 : b = false → B) : if b = true then A else B := by
  cases b
  · exact h2 rfl
  · exact h1 rfl
theorem go_iteT {A B : Prop} (h : A) : if true = true then A else B := h
theorem go_iteF {A B : Prop} (h : B) : if false = true then A else B := h
theorem go_iteNT {A B : Prop} (h : B) : if (!true) = true then A else B := h
theorem go_iteNF {A B : Prop} (h : A) : if (!false) = true then A else B := h
theorem go_iteYes {b : Bool} {A B : Prop} (e : b = true) (h : A) : if b = true then A else B := by rw [e]; exact h
theorem go_iteNo {b : Bool} {A B : Prop} (e : b = false) (h : B) : if b = true then A else B := by rw [e]; exact h
/-- xs.append(e), xs.pop() -/
def AppK (l : Addr) (Q : VK) : VK := fun y H2 => rAppend (.ref l) [y] H2 Q
theorem appk {l : Addr} {xs : List V} (h : H l = some (.lst xs)) (hl : xs.length ≤ 50000) (q : Q .non (upd H l (.lst (xs ++ [y])))) : AppK l Q y H := ⟨l, xs, y, rfl, rfl, h, Nat.lt_of_le_of_lt hl (by decide), q⟩
theorem go_app {l : Addr} {xs0 : List V} (hv : σ[i]? = some (some (.ref l))) (h0 : H l = some (.lst xs0)) (h : te σ H (AppK l Q)) : tBM K "list" rAppend (tVar i) (tCons te tNil) σ H Q := ⟨_, hv, .inl ⟨rfl, xs0, SqL.of h0⟩, h⟩
theorem go_pop {l : Addr} {xs : List V} (hv : σ[i]? = some (some (.ref l))) (h : H l = some (.lst (xs ++ [y]))) (q : Q y (upd H l (.lst xs))) : tBM0 K "list" rPop (tVar i) σ H Q := ⟨_, hv, .inl ⟨rfl, _, SqL.of h⟩, l, _, y, rfl, rfl, h, by
  rw [List.length_append, List.length_singleton, Nat.add_sub_cancel, List.getElem?_append_right (Nat.le_refl _), Nat.sub_self]
  rfl, by rw [List.dropLast_concat]; exact q⟩
/-! ### loops -/
theorem go_iList {tl : TE} (h : tl σ H fun x H1 => ∃ a, x = .ref a ∧ (∃ xs, SqL K H1 a xs) ∧ R (Itl K a) H1) : iList K tl σ H R := h
theorem go_iTup {tl : TE} (h : tl σ H fun x H1 => ∃ a, x = .ref a ∧ (∃ xs, SqT K H1 a xs) ∧ R (Itt K a) H1) : iTup K tl σ H R := h
theorem go_isL {a : Addr} {xs : List V} (h : SqL K H a xs) (q : R (Itl K a) H) : ∃ b, V.ref a = .ref b ∧ (∃ xs, SqL K H b xs) ∧ R (Itl K b) H := ⟨a, rfl, ⟨xs, h⟩, q⟩
theorem go_isT {a : Addr} {xs : List V} (h : SqT K H a xs) (q : R (Itt K a) H) : ∃ b, V.ref a = .ref b ∧ (∃ xs, SqT K H b xs) ∧ R (Itt K b) H := ⟨a, rfl, ⟨xs, h⟩, q⟩
theorem go_iRng1 (h : tr σ H fun vs H1 => ∃ j : Int, vs = [.int j] ∧ -(2 ^ 62) ≤ j ∧ j < 2 ^ 62 ∧ R (Itr 0 j.toNat) H1) : iRng1 tr σ H R := h
theorem go_iRng2 (h : tr σ H fun vs H1 => ∃ i j : Int, vs = [.int i, .int j] ∧ (-(2 ^ 62) ≤ i ∧ i < 2 ^ 62 ∧ -(2 ^ 62) ≤ j ∧ j < 2 ^ 62) ∧ R (Itr i (j - i).toNat) H1) : iRng2 tr σ H R := h
theorem go_isR1 {j : Int} (h0 : -(2 ^ 62) ≤ j) (h1 : j < 2 ^ 62) (q : R (Itr 0 j.toNat) H) : ∃ k : Int, [V.int j] = [.int k] ∧ -(2 ^ 62) ≤ k ∧ k < 2 ^ 62 ∧ R (Itr 0 k.toNat) H := ⟨j, rfl, h0, h1, q⟩
theorem go_while {c : TT} {tb : TS} (W : Nat → L2.St → Hp → Prop) (m0 : Nat) (h0 : W m0 σ H)
    (hs : ∀ m σ H, W m σ H → c σ H fun b H1 => if b = true then (∃ N : L2.St → Hp → Prop, (∀ σ' H', N σ' H' → ∃ m', m' < m ∧ W m' σ' H') ∧ tb { D with nx := N, ct := N, bk := D.nx } σ H1) else D.nx σ H1) : tWhile c tb D σ H := ⟨W, ⟨m0, h0⟩, hs⟩
end
/-! ### heaps -/
abbrev Ext := Evl.Ex
theorem mem_new {H : Hp} {p a : Addr} {o u : HO} (np : H p = none) (h : H a = some o) : upd H p u a = some o := by rw [upd_ne (ne_of_none h np)]; exact h
theorem mem_ext {H H' : Hp} {a : Addr} {o : HO} (e : Ext H H') (h : H a = some o) : H' a = some o := e a o h
theorem none_back {H : Hp} {p q : Addr} {o : HO} (h : upd H p o q = none) : H q = none ∧ q ≠ p := by
  by_cases e : q = p
  · subst e; rw [upd_same] at h; cases h
  · rw [upd_ne e] at h; exact ⟨h, e⟩
theorem ext_new {H H' : Hp} {p : Addr} {o : HO} (e : Ext H H') (np : H' p = none) : Ext H (upd H' p o) := e.trans (Evl.Ex.new np)
end At

namespace At
open L2 PyProof.Rows PySem.Spec PySem
/-- min(t), max(t) of one tuple of whole numbers, not empty: what a fold tells -/
def rLeast (K : PySem.W.Frag) (f : Int → Int → Int) : List V → Hp → VK → Prop := fun vs H Q => ∃ (a : Addr) (n : Int) (ns : List Int), vs = [.ref a] ∧ SqT K H a (.int n :: ns.map .int) ∧ Q (.int (ns.foldl f n)) H
theorem reads_nums {h : Heap} : ∀ {ns : List Int} {us : List Value}, Vals (ns.map V.int) us → ReadsAll h us (ns.map .int) []
  | [], _, r => by cases r; exact .nil
  | _ :: _, _, .cons ⟨_, e⟩ r => by
    subst e
    exact .cons (as := []) (bs := []) (.int _ _) (reads_nums r)
theorem flat_nums : ∀ ns : List Int, PyData.depthAll (ns.map .int) = 0
  | [] => rfl
  | n :: ns => by
    show Nat.max (PyData.depth (.int n)) (PyData.depthAll (ns.map .int)) = 0
    rw [flat_nums ns]
    rfl
theorem alike_nums (ns : List Int) : PySem.W.AlikeAll (ns.map .int) := by
  refine ⟨fun x hx y hy => ?_, fun x hx => ?_⟩
  · obtain ⟨i, _, rfl⟩ := List.mem_map.mp hx
    obtain ⟨j, _, rfl⟩ := List.mem_map.mp hy
    rfl
  · obtain ⟨i, _, rfl⟩ := List.mem_map.mp hx
    exact nofun
theorem int_of_reads {h : Heap} {v : Value} {i : Int} {as : List Addr} (r : Reads h v (.int i) as) : RelV (.int i) v := by
  cases r
  exact ⟨_, rfl⟩
section
variable {X : Cx}
theorem cr_leastT {k : Nat} (hc : X.calm = true) (hr : Room k X.A) : CallR X (.builtin "min") (rLeast X.K min) := by
  intro pins s σ H vs us Q I r ⟨a, n, ns, e, hs, q⟩
  subst e
  obtain ⟨its, rv, p, _⟩ := I.tuple hs
  rw [Vals.ref1 r]
  refine PySem.W.min_tuple_data (x := .int n) (xs := ns.map .int) (as := []) (I.ok.hd hc) p (reads_nums (ns := n :: ns) rv) (alike_nums (n :: ns)) ?_ fun _ v h' tk bs _ rd hk => ?_
  · rw [show PyData.int n :: ns.map PyData.int = (n :: ns).map .int from rfl, flat_nums]
    have := hr.un
    omega
  · rw [PySem.W.minD_ints] at rd
    exact ⟨_, H, I.kept hk, int_of_reads rd, q⟩
theorem cr_mostT {k : Nat} (hc : X.calm = true) (hr : Room k X.A) : CallR X (.builtin "max") (rLeast X.K max) := by
  intro pins s σ H vs us Q I r ⟨a, n, ns, e, hs, q⟩
  subst e
  obtain ⟨its, rv, p, _⟩ := I.tuple hs
  rw [Vals.ref1 r]
  refine PySem.W.max_tuple_data (x := .int n) (xs := ns.map .int) (as := []) (I.ok.hd hc) p (reads_nums (ns := n :: ns) rv) (alike_nums (n :: ns)) ?_ fun _ v h' tk bs _ rd hk => ?_
  · rw [show PyData.int n :: ns.map PyData.int = (n :: ns).map .int from rfl, flat_nums]
    have := hr.un
    omega
  · rw [PySem.W.maxD_ints] at rd
    exact ⟨_, H, I.kept hk, int_of_reads rd, q⟩
end
end At

namespace At
open L2 PyProof.Rows PySem.Spec PySem
/-! ### for i, x in enumerate(t), t a tuple -/
abbrev itOb (a : Addr) : Obj := { cls := .type "tuple_iterator", data := .fields #[.ref a, .int 0 0] }
abbrev enOb (i : Addr) : Obj := { cls := .type "enumerate", data := .fields #[.none, .bool false, .ref i, rawInt 0, .none, .none] }
abbrev enHp (h : Heap) (a : Addr) : Heap := (h.push (itOb a)).push (enOb h.objs.size)
theorem enum_newT (a : Addr) (vs : Array Value) : Meets (Builtin.«enumerate.__new__» ⟨[.type "enumerate", .ref a], []⟩)
    fun _ R s => s.heap.IsTuple a vs ∧ R (.ok (.ret (.ref (s.heap.push (itOb a)).objs.size))) { s with heap := enHp s.heap a } := by
  refine .of_wp fun prog w A R s hs => ?_
  obtain ⟨ht, hR⟩ := hs
  obtain ⟨hp, gs, dr, tk, os⟩ := s
  have same := sub_enumerate
  have goes : ∀ {B : Around} {E : Value → Shared → Prop} {Q : Value → Shared → Prop}, Q (.ref hp.objs.size) ⟨hp.push (itOb a), gs, dr, tk, os⟩ → wpAny (model prog w) B (pyIter (.ref a)) Q E ⟨hp, gs, dr, tk, os⟩ := fun q => wpAny_pyIter_tuple ht q
  wp_walk using goes
  refine wpAny_stack_any fun _ => wpAny_pure ?_
  split
  all_goals first
    | (wp_walk using goes; exact ⟨_, rfl, hR⟩)
    | (rename_i c _ _ _ _ _
       cases (c == Value.type "enumerate") <;> (wp_walk using goes; exact ⟨_, rfl, hR⟩))
theorem call_enumT {prog : Program} {w : World} {A : Around} {E : Value → Shared → Prop} {s : Shared} {a : Addr} {vs : Array Value} {Q : Value → Shared → Prop} (ht : s.heap.IsTuple a vs)
    (h : Q (.ref (s.heap.objs.size + 1)) { s with heap := enHp s.heap a }) : wpAny (model prog w) A (call (.type "enumerate") [.ref a]) Q E s := by
  have sz : (s.heap.push (itOb a)).objs.size = s.heap.objs.size + 1 := Heap.size_push ..
  have at_ : (enHp s.heap a).get? (s.heap.objs.size + 1) = some (enOb s.heap.objs.size) := by
    rw [← sz]
    (exact Heap.get?_push_size _ rfl)
  refine callType_new F.called_enumerate (by decide) (F.typeCall_enumerate_1 _) (F.newCall_enumerate_1 _) (fun _ => F.args_object_init_2 _ _) F.entry_enumerate_new (enum_newT a vs) ⟨ht, ?_⟩
  rw [sz]
  exact ⟨⟨_, at_, rfl⟩, h⟩
/-- the tuple at a, each item with its place in a new pair -/
def Itet (K : PySem.W.Frag) (a : Addr) (xs : List V) : It where
  go i H := SqT K H a xs ∧ i < xs.length
  yld i H v H' := ∃ T x, v = .ref T ∧ H T = none ∧ xs[i]? = some x ∧ H' = upd H T (.tup [.int (i : Nat), x])
  stop i H := SqT K H a xs ∧ i = xs.length
structure Ent (e it a : Addr) (i : Nat) (h : Heap) : Prop where
  en : ∃ old, IsEnum h e it (0 + (i : Int)) old
  at_ : h.IsTupleIter it a i
  ne1 : e ≠ it
  ne2 : a ≠ it
  ne3 : e ≠ a
theorem turn_enumT {P : Program} {w : World} {K : PySem.W.Frag} {elts : List Expr} {kk : Nat} {tpos : Pos} (a e it : Addr) (xs : List V) : Turn P w K (.Tuple elts kk tpos) (Itet K a xs) [e, it] e (Ent e it a) := by
  have two : ∀ {b : Addr} {p : Addr → Prop}, b ∈ [e, it] → p e → p it → p b := fun hb h1 h2 => by
    (rcases List.mem_cons.mp hb with z | z)
    · rw [z]; exact h1
    · rw [List.mem_singleton.mp z]; exact h2
  have E : ∀ {X : Cx} {s : Shared} {its : Array Value} {i : Nat}, X.calm = true → X.A.handled = none → Ent e it a i s.heap →
      GoesN X.prog X.w X.A (.Tuple elts kk tpos) e [e, it, a] [e, it] its.size (fun j h0 v h => ∃ T t x, v = .ref T ∧ h0.objs.size ≤ T ∧ its[j]? = some x ∧ h.IsTuple T #[.int (0 + (j : Int)) t, x])
        (fun j h => (∃ old, IsEnum h e it (0 + (j : Int)) old) ∧ h.IsTupleIter it a j ∧ h.IsTuple a its) := fun {X} {_} {_} {_} hc hh n =>
    GoesN.enumFrom 0 (Draws.tuple (A := X.A.in1) (show X.A.in1.handled = Option.none from hh) it a n.ne2 _) e n.ne1 (fun z => by
      (rcases List.mem_cons.mp z with z | z)
      · exact n.ne1 z
      · exact n.ne3 (List.mem_singleton.mp z)) List.mem_cons_self
  constructor
  case mem => exact List.mem_cons_self
  case obj =>
    intro i h n b hb
    obtain ⟨old, he⟩ := n.en
    obtain ⟨o, ho, _, hd⟩ := n.at_
    exact two (p := fun b => ∃ o, h.get? b = some o ∧ ∀ v, o.data ≠ .cell v) hb ⟨_, he, nofun⟩ ⟨o, ho, fun v q => by rw [hd] at q; cases q⟩
  case keep =>
    intro i h h' n k
    obtain ⟨old, he⟩ := n.en
    exact { n with en := ⟨old, k e List.mem_cons_self _ he⟩, at_ := n.at_.at fun o q => k it (List.mem_cons_of_mem _ List.mem_cons_self) o q }
  case item =>
    intro X hP hw hK hc i pins s σ H E' I hf n hg
    subst hP hw hK
    obtain ⟨hq, hi⟩ := hg
    obtain ⟨its, rv, p, _⟩ := I.tuple hq
    have W := E (its := its.toArray) hc (I.ok.hd hc) n
    refine W.goes i s _ _ (by rw [List.size_toArray, ← rv.length]; exact hi) ⟨n.en, n.at_, p⟩ fun v h' tk y st k tle => ?_
    obtain ⟨T, t, u, rfl, new, hu, hT⟩ := y
    obtain ⟨x, hx⟩ : ∃ x, xs[i]? = some x := ⟨_, List.getElem?_eq_getElem hi⟩
    obtain ⟨u', hu', ru⟩ := rv.get hx
    have e1 : u' = u := by
      rw [List.getElem?_toArray, hu'] at hu
      exact Option.some.inj hu
    subst e1
    have lt : ∀ b ∈ [e, it], b < T := fun b hb => by
      obtain ⟨old, he⟩ := n.en
      obtain ⟨o, ho, _⟩ := n.at_
      exact Nat.lt_of_lt_of_le (two (p := fun b => b < s.heap.objs.size) hb (Heap.lt_size he) (Heap.lt_size ho)) new
    rw [Int.zero_add] at hT
    refine ⟨.ref T, upd H T (.tup [.int (i : Nat), x]), I.turnedNew k hf new ⟨by show 2 ≤ sizeLine; decide, _, .cons ⟨_, rfl⟩ (.cons ru .nil), hT⟩, rfl, ⟨T, x, rfl, I.hok.fresh new, hx, rfl⟩, { n with en := st.1, at_ := st.2.1 }, fun b hb => ?_⟩
    rw [upd_ne (Nat.ne_of_lt (lt b hb))]
    exact (hf b hb).1
  case done =>
    intro X hP hw hK hc i pins s σ H E' I hf n hg
    subst hP hw hK
    obtain ⟨hq, hi⟩ := hg
    obtain ⟨its, rv, p, _⟩ := I.tuple hq
    have e1 : its.toArray.size = i := by rw [List.size_toArray, ← rv.length, hi]
    have W := E (its := its.toArray) hc (I.ok.hd hc) n
    rw [e1] at W
    exact W.stops s _ _ ⟨n.en, n.at_, p⟩ fun h' tk k _ => I.turnedL k hf
  case self =>
    intro A i s Q E' n h
    obtain ⟨old, he⟩ := n.en
    exact wpAny_pyIter_enum he h
def iEnumT (K : PySem.W.Frag) (ta : TA) : TI := fun σ H R => ta σ H fun vs H1 => ∃ a xs, vs = [.ref a] ∧ SqT K H1 a xs ∧ R (Itet K a xs) H1
theorem pi_enumT {X : Cx} {e : Expr} {ta : TA} {p pos tpos : Pos} {elts : List Expr} {kk : Nat} (hg : Gl X "enumerate") (hm : X.mg "enumerate" = none) (ha : PA X [e] ta) (hs : starEach [e] X.env = [(false, eval e X.env)] := by rfl) :
    PI X (.Tuple elts kk tpos) (.Call (.Name "enumerate" p) [e] [] pos) (iEnumT X.K ta) := by
  constructor
  intro pins s σ H R I h
  refine Call_ (ld_blt I hg hm boot_enumerate (callWith_type1 (thn (ha.run pos pins s σ H _ I h) fun us s1 q1 => ?_) hs rfl))
  obtain ⟨vs, H1, I1, r1, a, xs, rfl, hq, q⟩ := q1
  rw [Vals.ref1 r1]
  obtain ⟨its, rv, p', _⟩ := I1.tuple hq
  have z : (s1.heap.push (itOb a)).objs.size = s1.heap.objs.size + 1 := Heap.size_push ..
  have la : a < s1.heap.objs.size := by
    obtain ⟨_, k, _⟩ := p'
    exact Heap.lt_size k
  have kp : ∀ b o, s1.heap.get? b = some o → (enHp s1.heap a).get? b = some o := fun b o k => Heap.get?_push_of_some _ (Heap.get?_push_of_some _ k)
  have he : (enHp s1.heap a).get? (s1.heap.objs.size + 1) = some (enOb s1.heap.objs.size) := by
    rw [← z]
    (exact Heap.get?_push_size _ rfl)
  have hi : (enHp s1.heap a).get? s1.heap.objs.size = some (itOb a) := Heap.get?_push_of_some _ (Heap.get?_push_size _ rfl)
  refine call_enumT p' (wpAny_pyIter_enum (it := s1.heap.objs.size) (i := 0) (old := .none) he ?_)
  refine ⟨s1.heap.objs.size + 1, [s1.heap.objs.size + 1, s1.heap.objs.size], _, _, H1, rfl, I1.kept (t' := s1.toks) kp, turn_enumT a (s1.heap.objs.size + 1) s1.heap.objs.size xs, ⟨⟨.none, he⟩, ⟨_, hi, rfl, rfl⟩, Nat.succ_ne_self _, Nat.ne_of_lt la, fun k => ?_⟩, fun b hb => ?_, q⟩
  · rw [← k] at la
    exact absurd (Nat.lt_of_succ_lt la) (Nat.lt_irrefl _)
  · have le : s1.heap.objs.size ≤ b := by
      rcases List.mem_cons.mp hb with k | k
      · rw [k]; exact Nat.le_succ _
      · rw [List.mem_singleton.mp k]; exact Nat.le_refl _
    exact I1.fpOk le (I1.hok.fresh le)
end At

namespace At
open L2 PyProof.Rows PySem.Spec PySem
/-! ### x == y and x != y, x an object of the own class at C: its own __eq__ at g, no own __ne__ -/
structure EqAt_ (K : PySem.W.Frag) (C g : Addr) : Prop where
  eq : PySem.W.findIn K (.ref C) "__eq__" = some (some (.ref g))
  isf : PySem.W.isFn K (.ref g) = true
  ne : PySem.W.findIn K (.ref C) "__ne__" = some (some (.builtin "object.__ne__"))
  ob : PySem.W.mroIn K C (.type "object") = some true
/-- the answer is xor'ed with b: false for ==, true for != -/
def rOwnEq (K : PySem.W.Frag) (C : Addr) (sp : Sp) (E : XK) (b : Bool) : R2 := fun x y H Q =>
  ∃ a dx fs t, x = .ref a ∧ H a = some (.ins C dx fs) ∧ TyX K H y t ∧ PySem.W.notFirst K C t = true ∧ sp [x, y] H (fun v H' => ∃ c, v = .bl c ∧ Q (.bl (b ^^ c)) H') E
section
variable {X : Cx} {CX : CXT} {C g : Addr} {n : Nat} {sp : Sp} {E : XK}
theorem own_call {pins : List (Addr × Obj)} {σ : L2.St} {H : Hp} {s : Shared} {us : List Value} {vs : List V} {Q : VK} (F : FnR X.prog X.w X.K X.mg X.base CX n g sp) {B : Around} (hr : Room n B) (hx : Passes CX X E) (I : Inv X pins σ H s)
    (e0 : Env0 X.prog X.w X.K X.mg X.base B X.stack s H) (r : Vals vs us) (h : sp vs H Q E) : wpAny (model X.prog X.w) B (call (.ref g) us) (EP X pins σ Q) X.xe s := by
  refine wpAny_call (codeAny_mono (F B X.stack s H us vs Q E hr e0 r h) fun z s' hz => ?_)
  match z, hz with
  | .error e, hz => exact hx pins σ H s e s' I hz
  | .ok (.ret _), hz => exact I.after hz
theorem ne_call {prog : Program} {w : World} {A : Around} {E : Value → Shared → Prop} {s : Shared} {K : PySem.W.Frag} {a : Addr} {u : Value} {ox : Obj} {od : Option Obj} {Q : Value → Shared → Prop} (D : EqAt_ K C g) (k : K.In s.heap) (J : PySem.W.InstAt s.heap a ox C od) (hu : A.units + 1 < cLine)
    (h : wpAny (model prog w) A.in1 (call (.ref g) [.ref a, u]) (fun v s' => ∃ c, v = .bool c ∧ Q (.bool (!c)) s') E s) : wpAny (model prog w) A (call (.builtin "object.__ne__") [.ref a, u]) Q E s := by
  have run : wpAny (model prog w) A.in1 (Builtin.«object.__ne__» ⟨[.ref a, u], []⟩) (fun fin s' => ∃ v, fin = .done (.ret v) ∧ Q v s') E s := by
    (unfold Builtin.«object.__ne__»)
    refine wpAny_bind (wpAny_of_eq rfl ?_)
    (refine wpAny_bind (wpAny_cRoomFor hu ?_))
    refine wpAny_bind (PySem.W.ifBound_K k J D.eq D.isf (wpAny_mono h (fun v s' hv => ?_) fun _ _ e => e))
    obtain ⟨c, rfl, q⟩ := hv
    refine wpAny_bind (wpAny_truthy_bool ?_)
    exact wpAny_pure ⟨_, rfl, q⟩
  exact wpAny_call (codeAny_call_builtin F.cmp_object.ne.plain F.cmpEntry_ne (PySem.W.check_slot F.cmpKind_ne F.cmpSplit_ne (J.type.andThen (PySem.W.looks_mroIn k D.ob)) (F.cmpArgs_ne _ _) (wpAny_mono run (fun fin s' z => by
    obtain ⟨v, rfl, q⟩ := z
    exact q) fun _ _ z => z)))
theorem ne_rich {prog : Program} {w : World} {A : Around} {E : Value → Shared → Prop} {s : Shared} {K : PySem.W.Frag} {a : Addr} {u t : Value} {ox : Obj} {od : Option Obj} {Q : Value → Shared → Prop} (D : EqAt_ K C g) (k : K.In s.heap) (J : PySem.W.InstAt s.heap a ox C od) (hu : A.units + 1 < cLine)
    (ty : PySem.W.Looks (model prog w) s.heap (typeOf u) t) (nf : PySem.W.notFirst K C t = true)
    (h : wpAny (model prog w) A.in1 (call (.ref g) [.ref a, u]) (fun v s' => ∃ c, v = .bool c ∧ Q (.bool (!c)) s') E s) : wpAny (model prog w) A (richCompare .NotEq (.ref a) u) Q E s := by
  have mine : wpAny (model prog w) A (tryCompare (.ref a) "__ne__" u) (fun r s' => ∃ c, r = some (.bool c) ∧ Q (.bool c) s') E s := by
    unfold tryCompare callSpecialIfBound? bindSpecialIfBound?
    have done : wpAny (model prog w) A (call (.builtin "object.__ne__") ([.ref a] ++ [u])) (fun v s' => ∃ c, v = .bool c ∧ Q (.bool c) s') E s := ne_call D k J hu (wpAny_mono h (fun v s' hv => by
      obtain ⟨c, e, q⟩ := hv
      exact ⟨c, e, _, rfl, q⟩) fun _ _ z => z)
    have next : wpAny (model prog w) A (do
        let r ← call (.builtin "object.__ne__") ([.ref a] ++ [u])
        pure (some r)) (fun r s' => ∃ c, r = some (.bool c) ∧ Q (.bool c) s') E s := wpAny_bind (wpAny_mono done (fun v s' hv => by
      obtain ⟨c, rfl, q⟩ := hv
      exact wpAny_pure ⟨c, rfl, q⟩) fun _ _ z => z)
    refine wpAny_bind (wpAny_mono (Q := fun r s' => ∃ c, r = some (Value.bool c) ∧ Q (.bool c) s') (wpAny_holding (wpAny_bind (wpAny_bind (wpAny_bind (J.type.here ((PySem.W.looks_findIn k D.ne).here ?one)))))) (fun r s' z => ?two) fun _ _ z => z)
    case two =>
      obtain ⟨c, rfl, q⟩ := z
      exact wpAny_pure ⟨c, rfl, q⟩
    (refine wpAny_bind (wpAny_askSetting (wpAny_ite ?_)))
    split
    · exact wpAny_bind (wpAny_of_eq (F.cmp_object.ne.bind _) (wpAny_pure next))
    · exact wpAny_tryCatch (wpAny_bind (wpAny_of_eq (F.cmp_object.ne.bind _) (wpAny_pure next)))
  unfold richCompare
  simp only [oneThing_ref]
  refine wpAny_holding (wpAny_bind (wpAny_cRoomFor (by omega) ?_))
  refine wpAny_bind (J.type.here (wpAny_bind (ty.here ?_)))
  have told : wpAny (model prog w) A (tryCompare (.ref a) "__ne__" u) (fun r s' => ∃ c, r = some (.bool c) ∧ Q (.bool c) s') E s := mine
  split
  · rename_i ne
    have sub : PySem.W.subIn K t (.ref C) = some false := by
      rcases Bool.or_eq_true_iff.mp nf with e | e
      · exact absurd (beq_iff_eq.mp e) (fun z => by rw [z] at ne; simp at ne)
      · exact beq_iff_eq.mp e
    refine wpAny_bind ((PySem.W.looks_subIn k sub).here ?_)
    (simp only [Bool.false_eq_true, if_false])
    refine wpAny_bind (wpAny_mono told (fun r s' z => ?_) fun _ _ z => z)
    obtain ⟨c, rfl, q⟩ := z
    exact wpAny_pure q
  · (refine wpAny_bind (wpAny_pure ?_))
    (simp only [Bool.false_eq_true, if_false])
    refine wpAny_bind (wpAny_mono told (fun r s' z => ?_) fun _ _ z => z)
    obtain ⟨c, rfl, q⟩ := z
    exact wpAny_pure q
theorem op_eqO (D : EqAt_ X.K C g) (F : FnR X.prog X.w X.K X.mg X.base CX n g sp) (hr : Room (n + 1) X.A) (hx : Passes CX X E) : OpR X (compareOp .Eq) (rOwnEq X.K C sp E false) := by
  (intro pins s σ H x y v u Q I rx ry h)
  obtain ⟨a, dx, fs, t, rfl, ha, ty, nf, q⟩ := h
  (cases (show v = Value.ref a from rx))
  obtain ⟨_, J, _⟩ := ins_get I.hok ha
  obtain ⟨od, J, _⟩ := J.look
  obtain ⟨P, kx, hP, _⟩ := kit_of I ry ty
  obtain ⟨m, fr⟩ := I.fr
  refine PySem.W.cmp_K (op := .Eq) hr.units0 fr I.ok.mod.kin J (kx.ty _ _ I.kIn hP) nf D.eq D.isf (wpAny_mono (own_call (vs := [V.ref a, y]) F (hr.mono (Nat.le_succ n)) hx I I.env0 (.cons rfl (.cons ry .nil)) q) (fun w s' z => ?_) fun _ _ z => z)
  obtain ⟨z, H', I', rz, c, rfl, q'⟩ := z
  cases (show w = Value.bool c from rz)
  exact ⟨.bl c, H', I', rfl, by rw [Bool.false_xor] at q'; exact q'⟩
theorem op_neO (D : EqAt_ X.K C g) (F : FnR X.prog X.w X.K X.mg X.base CX n g sp) (hr : Room (n + 1) X.A) (hx : Passes CX X E) : OpR X (compareOp .NotEq) (rOwnEq X.K C sp E true) := by
  (intro pins s σ H x y v u Q I rx ry h)
  obtain ⟨a, dx, fs, t, rfl, ha, ty, nf, q⟩ := h
  (cases (show v = Value.ref a from rx))
  obtain ⟨_, J, _⟩ := ins_get I.hok ha
  obtain ⟨od, J, _⟩ := J.look
  obtain ⟨P, kx, hP, _⟩ := kit_of I ry ty
  refine ne_rich D I.kIn J (by have := hr.un; omega) (kx.ty _ _ I.kIn hP) nf (wpAny_mono (own_call (vs := [V.ref a, y]) F hr.in1 hx I I.env0.in1 (.cons rfl (.cons ry .nil)) q) (fun w s' z => ?_) fun _ _ z => z)
  obtain ⟨z, H', I', rz, c, rfl, q'⟩ := z
  cases (show w = Value.bool c from rz)
  exact ⟨c, rfl, .bl (!c), H', I', rfl, by rw [Bool.true_xor] at q'; exact q'⟩
end
end At

namespace At
open L2 PyProof.Rows PySem.Spec PySem
/-! ### more steps of a reading -/
section
variable {K : PySem.W.Frag} {σ : L2.St} {H : Hp} {D : Ends} {Q : VK} {ta te : TE} {tr tk : TA} {R : It → Hp → Prop} {sp : Sp} {E : XK} {C : Addr}
theorem go_fld {f : Str} (h : ta σ H fun x H1 => ∃ a C dx fs v, x = .ref a ∧ H1 a = some (.ins C dx fs) ∧ Cls K C ∧ NoAttr K C f ∧ fs.lookup f = some v ∧ Q v H1) : tFld K ta f σ H Q := h
theorem go_prop (h : ta σ H fun x H1 => ∃ a dx fs, x = .ref a ∧ H1 a = some (.ins C dx fs) ∧ sp [.ref a] H1 Q E) : tProp C sp [] E ta σ H Q := h
theorem go_sfld {tv : TE} {f : Str} (h : tv σ H fun y H1 => ta σ H1 fun x H2 => ∃ a C dx fs, x = .ref a ∧ H2 a = some (.ins C dx fs) ∧ Cls K C ∧ NoAttr K C f ∧ fs.length < 1000 ∧ D.nx σ (upd H2 a (.ins C dx (putF f y fs)))) : sFld K ta tv f D σ H := h
theorem go_iStr {tl : TE} (h : tl σ H fun v H1 => ∃ x, v = .str x ∧ R (Its x) H1) : iStr tl σ H R := h
theorem go_isS {x : Str} (q : R (Its x) H) : ∃ y, V.str x = .str y ∧ R (Its y) H := ⟨x, rfl, q⟩
theorem go_iEnT (h : tr σ H fun vs H1 => ∃ a xs, vs = [.ref a] ∧ SqT K H1 a xs ∧ R (Itet K a xs) H1) : iEnumT K tr σ H R := h
theorem go_isET {a : Addr} {xs : List V} (h : SqT K H a xs) (q : R (Itet K a xs) H) : ∃ b ys, [V.ref a] = [.ref b] ∧ SqT K H b ys ∧ R (Itet K b ys) H := ⟨a, xs, rfl, h, q⟩
/-- C(*xs) and C(e, *xs): a new instance -/
theorem go_makeR (h : tr σ H fun vs H1 => ∀ x dx, H1 x = none → H1 dx = none → dx ≠ x → sp (.ref x :: vs) (upd (upd H1 dx (.own x)) x (.ins C dx [])) (fun v H2 => v = .non ∧ Q (.ref x) H2) E) : StX.tMakeR C sp E tr σ H Q := h
theorem go_star {QA : List V → Hp → Prop} (h : te σ H fun x H1 => ∃ p xs, x = V.ref p ∧ (SqT K H1 p xs ∨ SqL K H1 p xs) ∧ tr σ H1 fun ys H2 => QA (xs ++ ys) H2) : StX.tStar K te tr σ H QA := h
theorem go_starT {p : Addr} {xs : List V} {P : List V → Prop} (h : SqT K H p xs) (q : P xs) : ∃ p' ys, V.ref p = V.ref p' ∧ (SqT K H p' ys ∨ SqL K H p' ys) ∧ P ys := ⟨p, xs, rfl, .inl h, q⟩
/-- C(k = v, ..) -/
theorem go_makeK {n m : Nat} {gV : List V → List V → List V} (h : tr σ H fun vs H1 => tk σ H1 fun zs H2 => vs.length = n ∧ zs.length = m ∧ ∀ x dx, H2 x = none → H2 dx = none → dx ≠ x → sp (gV (.ref x :: vs) zs) (upd (upd H2 dx (.own x)) x (.ins C dx [])) (fun v H3 => v = .non ∧ Q (.ref x) H3) E) : tMakeK C n m sp gV E tr tk σ H Q := h
/-- min, max of a tuple of whole numbers -/
theorem go_leastT {f : Int → Int → Int} {a : Addr} {n : Int} {ns : List Int} (h : SqT K H a (.int n :: ns.map .int)) (q : Q (.int (ns.foldl f n)) H) : rLeast K f [.ref a] H Q := ⟨a, n, ns, rfl, h, q⟩
/-- == and != of an instance -/
theorem go_ownEq {b : Bool} {a dx : Addr} {fs : List (Str × V)} {y : V} {t : Value} (h : H a = some (.ins C dx fs)) (ty : TyX K H y t) (nf : PySem.W.notFirst K C t = true) (q : sp [.ref a, y] H (fun v H' => ∃ c, v = .bl c ∧ Q (.bl (b ^^ c)) H') E) : rOwnEq K C sp E b (.ref a) y H Q := ⟨a, dx, fs, t, rfl, h, ty, nf, q⟩
end
/-! ### a list read where it is changed at once: xs[k] op= e -/
def rGetL (K : PySem.W.Frag) : V → V → Hp → VK → Prop := fun x y H Q => ∃ p xs k v, x = .ref p ∧ y = .int k ∧ 0 ≤ k ∧ k < 2 ^ 63 ∧ SqL K H p xs ∧ xs[k.toNat]? = some v ∧ Q v H
theorem get_list {X : Cx} : PGet X (rGetL X.K) := by
  intro pins s σ H o i ov iv Q I ro ri ⟨p, xs, k, v, eo, ei, h0, h1, hq, hv, q⟩
  subst eo ei
  obtain ⟨t, rfl⟩ := (show ∃ t, iv = Value.int k t from ri)
  cases (show ov = Value.ref p from ro)
  obtain ⟨its, rv, pl, _⟩ := I.list hq
  obtain ⟨u, hu, ru⟩ := rv.get hv
  exact wpAny_getItem_list pl.isList h0 h1 (by rw [List.getElem?_toArray]; exact hu) ⟨v, H, I, ru, q⟩
/-! ### a dict of the module, read -/
def rKd (K : PySem.W.Frag) (d : Addr) : R2 := fun x y H Q => ∃ (z : Str) (u0 : Value) (v0 : V), x = .ref d ∧ y = .str z ∧ PySem.W.nsIn K d z = some (some u0) ∧ RelV v0 u0 ∧ Q v0 H
theorem ix_kd {X : Cx} {d : Addr} {es : Array DictEntry} {n : Nat} (D : KDict X.K X.w d es n) : IxR X (rKd X.K d) := by
  intro value slice pins s σ H x y v u Q I rx ry ⟨z, u0, v0, ex, ey, e, r, q⟩ hs
  exact ix_kdict value slice pins s σ H x y v u Q I rx ry ⟨d, z, v0, ex, ey, ⟨es, n, u0, D.at_, D.lit, e, r⟩, q⟩ hs
/-! ### what a walk gives, where the heap only grows -/
theorem walk_enT {K : PySem.W.Frag} {a : Addr} {xs : List V} : Walk (Itet K a xs) xs.length (fun H => SqT K H a xs) (YPair (fun i => some (.int (i : Nat))) fun i => xs[i]?) where
  goes i H hi h := ⟨h, hi⟩
  stops H h := ⟨h, rfl⟩
  yields i H x H' hi h y := by
    obtain ⟨T, z, e1, e2, e3, e4⟩ := y
    exact ⟨T, _, z, e1, e2, e4, rfl, e3⟩
/-- what tLc asks behind its iterator -/
def Lcs (J : It) (g : TG) (te : TE) (vs : List Nat) (σ : L2.St) (H : Hp) (Q : VK) : Prop := tLc (fun _ G R => R J G) g tYes te vs σ H Q
/-- a comprehension that keeps all, its i-th item ys[i] -/
theorem lc_all {J : It} {n : Nat} {G : Hp → Prop} {Y : Nat → Hp → V → Hp → Prop} (w : Walk J n G Y) {g : TG} {te : TE} {vs : List Nat} {σ : L2.St} {H1 : Hp} {Q : VK} (ys : List V) (hn : ys.length = n) (hz : n ≤ 60000)
    (hG : ∀ H, Ext H1 H → G H)
    (hs : ∀ d, H1 d = none → ∀ i x y H H' (QE : VK), ys[i]? = some y → Ext H1 H → Y i H x H' → (∀ H4, Ext H H4 → QE y H4) → g x (wipe σ vs) H' fun σ2 H2 => wipe σ2 vs = wipe σ vs ∧ te σ2 H2 QE)
    (hm : ∀ {x : V} {τ : L2.St} {H : Hp} {P P' : L2.St → Hp → Prop}, (∀ τ H, P τ H → P' τ H) → g x τ H P → g x τ H P')
    (hd : ∀ d, H1 d = none → ∀ H, Ext H1 H → H d = some (.lst ys) → Q (.ref d) H) : Lcs J g te vs σ H1 Q := by
  intro D nD
  refine lc_it w (fun i H => Ext H1 H ∧ H D = some (.lst (ys.take i))) ⟨Evl.Ex.new nD, upd_same⟩ (fun i H _ p => hG H p.1) (fun i x H H' hi p y => ?_) fun H p => hd D nD H p.1 (by rw [p.2, ← hn, List.take_length])
  obtain ⟨z, hz'⟩ : ∃ z, ys[i]? = some z := ⟨_, List.getElem?_eq_getElem (hn ▸ hi)⟩
  refine hm (fun τ H2 q => q) (hs D nD i x z H H' (fun v H4 => ∃ acc, H4 D = some (.lst acc) ∧ acc.length < sizeLine ∧ Ext H1 (upd H4 D (.lst (acc ++ [v]))) ∧ upd H4 D (.lst (acc ++ [v])) D = some (.lst (ys.take (i + 1)))) hz' p.1 y fun H4 e => ?_)
  refine ⟨_, e _ _ p.2, ?_, (p.1.trans e).mut nD, ?_⟩
  · rw [List.length_take, sizeLine_eq]
    omega
  · rw [upd_same, List.take_add_one, hz']
    rfl
theorem mono_name {i : Nat} {x : V} {τ : L2.St} {H : Hp} {P P' : L2.St → Hp → Prop} (h : ∀ τ H, P τ H → P' τ H) (q : gName i x τ H P) : gName i x τ H P' := h _ _ q
end At

namespace At
open L2 PyProof.Rows PySem.Spec PySem
/-! ### loops and comprehensions, by what is walked -/
/-- what tFor asks behind its iterator -/
def Loops (J : It) (g : TG) (tb : TS) (D : Ends) (σ : L2.St) (H : Hp) : Prop := tFor (fun _ H R => R J H) g tb D σ H
section
variable {K : PySem.W.Frag} {a : Addr} {xs : List V} {g : TG} {tb : TS} {te : TE} {D : Ends} {σ : L2.St} {H : Hp} {wi : TI} {vs : List Nat} {Q : VK}
theorem go_for (h : wi σ H fun J H1 => Loops J g tb D σ H1) : tFor wi g tb D σ H := h
theorem go_lc (h : wi σ H fun J H1 => Lcs J g te vs σ H1 Q) : tLc wi g tYes te vs σ H Q := h
theorem loop_list (Pv : Nat → L2.St → Hp → Prop) (h0 : Pv 0 σ H) (hq : ∀ i σ H, i ≤ xs.length → Pv i σ H → SqL K H a xs)
    (hs : ∀ i x σ H, xs[i]? = some x → Pv i σ H → g x σ H fun σ2 H2 => tb { D with nx := Pv (i + 1), ct := Pv (i + 1), bk := D.nx } σ2 H2) (hd : ∀ σ H, Pv xs.length σ H → D.nx σ H) : Loops (Itl K a) g tb D σ H :=
  for_it walk_list Pv h0 hq (fun i x σ H H' _ p y => by
    obtain ⟨rfl, e⟩ := y
    exact hs i x σ _ e p) hd
theorem loop_tup (Pv : Nat → L2.St → Hp → Prop) (h0 : Pv 0 σ H) (hq : ∀ i σ H, i ≤ xs.length → Pv i σ H → SqT K H a xs)
    (hs : ∀ i x σ H, xs[i]? = some x → Pv i σ H → g x σ H fun σ2 H2 => tb { D with nx := Pv (i + 1), ct := Pv (i + 1), bk := D.nx } σ2 H2) (hd : ∀ σ H, Pv xs.length σ H → D.nx σ H) : Loops (Itt K a) g tb D σ H :=
  for_it walk_tup Pv h0 hq (fun i x σ H H' _ p y => by
    obtain ⟨rfl, e⟩ := y
    exact hs i x σ _ e p) hd
theorem loop_enumT (Pv : Nat → L2.St → Hp → Prop) (h0 : Pv 0 σ H) (hq : ∀ i σ H, i ≤ xs.length → Pv i σ H → SqT K H a xs)
    (hs : ∀ i x σ H T, xs[i]? = some x → Pv i σ H → H T = none → g (.ref T) σ (upd H T (.tup [.int (i : Nat), x])) fun σ2 H2 => tb { D with nx := Pv (i + 1), ct := Pv (i + 1), bk := D.nx } σ2 H2) (hd : ∀ σ H, Pv xs.length σ H → D.nx σ H) : Loops (Itet K a xs) g tb D σ H :=
  for_it walk_enT Pv h0 hq (fun i x σ H H' _ p y => by
    obtain ⟨T, u, v, rfl, nT, rfl, e1, e2⟩ := y
    cases Option.some.inj e1
    exact hs i v σ H T e2 p nT) hd
theorem loop_str {z : Str} (Pv : Nat → L2.St → Hp → Prop) (h0 : Pv 0 σ H) (hs : ∀ i c σ H, z.cps[i]? = some c → Pv i σ H → g (.str ⟨#[c]⟩) σ H fun σ2 H2 => tb { D with nx := Pv (i + 1), ct := Pv (i + 1), bk := D.nx } σ2 H2)
    (hd : ∀ σ H, Pv z.cps.size σ H → D.nx σ H) : Loops (Its z) g tb D σ H :=
  for_it walk_str Pv h0 (fun _ _ _ _ _ => trivial) (fun i x σ H H' _ p y => by
    obtain ⟨rfl, c, e, rfl⟩ := y
    exact hs i c σ _ e p) hd
theorem loop_range {lo : Int} {n : Nat} (Pv : Nat → L2.St → Hp → Prop) (h0 : Pv 0 σ H) (hs : ∀ i σ H, i < n → Pv i σ H → g (.int (lo + i)) σ H fun σ2 H2 => tb { D with nx := Pv (i + 1), ct := Pv (i + 1), bk := D.nx } σ2 H2)
    (hd : ∀ σ H, Pv n σ H → D.nx σ H) : Loops (Itr lo n) g tb D σ H := for_range Pv h0 hs hd
variable {j : Nat}
/-- the items by their places -/
theorem lc_tupI (ha : H a = some (.tup xs)) (hz : xs.length ≤ 60000) (f : Nat → V) 
    (hs : ∀ d, H d = none → ∀ i x H' (QE : VK), xs[i]? = some x → Ext H H' → (∀ H4, Ext H' H4 → QE (f i) H4) → gName j x (wipe σ vs) H' fun σ2 H2 => wipe σ2 vs = wipe σ vs ∧ te σ2 H2 QE)
    (hd : ∀ d, H d = none → ∀ H', Ext H H' → H' d = some (.lst ((List.range xs.length).map f)) → Q (.ref d) H') : Lcs (Itt K a) (gName j) te vs σ H Q :=
  lc_all walk_tup ((List.range xs.length).map f) (by rw [List.length_map, List.length_range]) hz (fun _ e => SqT.of (e _ _ ha)) (fun d nd i x y H1 H' QE hy e y1 q => by
    obtain ⟨rfl, e1⟩ := y1
    refine hs d nd i x _ QE e1 e fun H4 e4 => ?_
    have hi : i < xs.length := (List.getElem?_eq_some_iff.mp e1).1
    rw [List.getElem?_map, List.getElem?_range hi] at hy
    cases Option.some.inj hy
    exact q H4 e4) mono_name hd
theorem mapped {ys : List V} {f : V → V} {i : Nat} {x y : V} (h : (ys.map f)[i]? = some y) (e : ys[i]? = some x) : y = f x := by
  rw [List.getElem?_map, e] at h
  exact (Option.some.inj h).symm
theorem lc_tupP (ha : H a = some (.tup xs)) (hz : xs.length ≤ 60000) (f : V → V) 
    (hs : ∀ d, H d = none → ∀ x H' (_ : x ∈ xs) (_ : Ext H H') (QE : VK), (∀ H4, Ext H' H4 → QE (f x) H4) → gName j x (wipe σ vs) H' fun σ2 H2 => wipe σ2 vs = wipe σ vs ∧ te σ2 H2 QE)
    (hd : ∀ d, H d = none → ∀ H', Ext H H' → H' d = some (.lst (xs.map f)) → Q (.ref d) H') : Lcs (Itt K a) (gName j) te vs σ H Q :=
  lc_all walk_tup (xs.map f) (List.length_map ..) hz (fun _ e => SqT.of (e _ _ ha)) (fun d nd i x y H1 H' QE hy e y1 q => by
    obtain ⟨rfl, e1⟩ := y1
    cases mapped hy e1
    exact hs d nd x _ (List.mem_of_getElem? e1) e QE q) mono_name hd
theorem lc_lstP (ha : H a = some (.lst xs)) (hz : xs.length ≤ 60000) (f : V → V) 
    (hs : ∀ d, H d = none → ∀ x H' (_ : x ∈ xs) (_ : Ext H H') (QE : VK), (∀ H4, Ext H' H4 → QE (f x) H4) → gName j x (wipe σ vs) H' fun σ2 H2 => wipe σ2 vs = wipe σ vs ∧ te σ2 H2 QE)
    (hd : ∀ d, H d = none → ∀ H', Ext H H' → H' d = some (.lst (xs.map f)) → Q (.ref d) H') : Lcs (Itl K a) (gName j) te vs σ H Q :=
  lc_all walk_list (xs.map f) (List.length_map ..) hz (fun _ e => SqL.of (e _ _ ha)) (fun d nd i x y H1 H' QE hy e y1 q => by
    obtain ⟨rfl, e1⟩ := y1
    cases mapped hy e1
    exact hs d nd x _ (List.mem_of_getElem? e1) e QE q) mono_name hd
theorem lc_strP {z : Str} (hz : z.cps.size ≤ 60000) (f : Nat → V) 
    (hs : ∀ d, H d = none → ∀ c H' (_ : c ∈ z.cps.toList) (_ : Ext H H') (QE : VK), (∀ H4, Ext H' H4 → QE (f c) H4) → gName j (.str ⟨#[c]⟩) (wipe σ vs) H' fun σ2 H2 => wipe σ2 vs = wipe σ vs ∧ te σ2 H2 QE)
    (hd : ∀ d, H d = none → ∀ H', Ext H H' → H' d = some (.lst (z.cps.toList.map f)) → Q (.ref d) H') : Lcs (Its z) (gName j) te vs σ H Q :=
  lc_all walk_str (z.cps.toList.map f) (by rw [List.length_map, Array.length_toList]) hz (fun _ _ => trivial) (fun d nd i x y H1 H' QE hy e y1 q => by
    obtain ⟨rfl, c, e1, rfl⟩ := y1
    rw [List.getElem?_map, Array.getElem?_toList, e1] at hy
    cases Option.some.inj hy
    exact hs d nd c _ (Array.mem_toList_iff.mpr (Array.mem_of_getElem? e1)) e QE q) mono_name hd
theorem lc_rng {lo : Int} {n : Nat} (hz : n ≤ 60000) (f : Nat → V) 
    (hs : ∀ d, H d = none → ∀ i H' (_ : i < n) (_ : Ext H H') (QE : VK), (∀ H4, Ext H' H4 → QE (f i) H4) → gName j (.int (lo + (i : Nat))) (wipe σ vs) H' fun σ2 H2 => wipe σ2 vs = wipe σ vs ∧ te σ2 H2 QE)
    (hd : ∀ d, H d = none → ∀ H', Ext H H' → H' d = some (.lst ((List.range n).map f)) → Q (.ref d) H') : Lcs (Itr lo n) (gName j) te vs σ H Q :=
  lc_all (walk_range (lo := lo)) ((List.range n).map f) (by rw [List.length_map, List.length_range]) hz (fun _ _ => trivial) (fun d nd i x y H1 H' QE hy e y1 q => by
    obtain ⟨rfl, rfl⟩ := y1
    have hi : i < n := by
      have := (List.getElem?_eq_some_iff.mp hy).1
      rw [List.length_map, List.length_range] at this
      exact this
    rw [List.getElem?_map, List.getElem?_range hi] at hy
    cases Option.some.inj hy
    exact hs d nd i _ hi e QE q) mono_name hd
end
end At

namespace At
open L2 PyProof.Rows PySem.Spec PySem
/-! ### e[::-1] of a tuple and of a text -/
/-- a value of a built-in type whose own method takes indexes -/
def Items (s : Shared) (v : Value) : Prop := ∃ T id : String, s.TypeIs v T ∧ typeLookup (.type T) "__getitem__" = pure (some (.builtin id))
/-- r tells what comes of the slice (None, None, -1) -/
def SlBack (X : Cx) (r : V → Hp → VK → Prop) : Prop :=
  ∀ (pins : List (Addr × Obj)) (s : Shared) (σ : L2.St) (H : Hp) (x : V) (v : Value) (sl : Addr) (t : Tok) (Q : VK), Inv X pins σ H s → RelV x v →
    s.heap.IsSliceOf sl .none .none (.int (-1) t) → r x H Q →
    Items s v ∧ wpAny (model X.prog X.w) X.A (getItem v (.ref sl)) (EP X pins σ Q) X.xe s
def tBack (r : V → Hp → VK → Prop) (te : TE) : TE := fun σ H Q => te σ H fun x H1 => r x H1 Q
theorem go_back {r : V → Hp → VK → Prop} {te : TE} {σ : L2.St} {H : Hp} {Q : VK} (h : te σ H fun x H1 => r x H1 Q) : tBack r te σ H Q := h
theorem pe_back {X : Cx} {r : V → Hp → VK → Prop} {e : Expr} {te : TE} {k : Nat} {p1 p2 p3 pos : Pos} (hr : SlBack X r) (he : PE X e te) :
    PE X (.Subscript e (.Slice none none (some (.UnaryOp .USub (.Constant (.int 1) k p1) p2)) p3) pos) (tBack r te) := by
  constructor
  intro pins s σ H Q I h
  refine Subscript_ (thn (he.run pins s σ H _ I h) fun v s1 z => ?_)
  obtain ⟨x, H1, I1, rx, q⟩ := z
  have step : PO X (some (.UnaryOp .USub (.Constant (.int 1) k p1) p2)) _ := po_some (pe_un un_neg pe_int)
  refine wpAny_Slice ?_
  refine thn (po_none.run pins s1 σ H1 (fun o G => o = none ∧ G = H1) I1 ⟨rfl, rfl⟩) fun vl s2 z => ?_
  obtain ⟨l, G, I2, pl, rfl, rfl⟩ := z
  cases pl
  refine thn (po_none.run pins s2 σ G (fun o G' => o = none ∧ G' = G) I2 ⟨rfl, rfl⟩) fun vu s3 z => ?_
  obtain ⟨u, G', I3, pu, rfl, rfl⟩ := z
  cases pu
  refine thn (step.run pins s3 σ G' (fun o J => o = some (-1) ∧ J = G') I3 ⟨1, rfl, -1, rfl, rfl, rfl⟩) fun vs s4 z => ?_
  obtain ⟨o, J, I4, ps, rfl, rfl⟩ := z
  cases ps with
  | int _ t =>
    let s5 : Shared := { s4 with heap := s4.heap.push { cls := .type "slice", data := .fields #[.none, .none, .int (-1) t] } }
    have I5 : Inv X pins σ J s5 := I4.kept (t' := s4.toks) fun b ob q => Heap.get?_push_of_some _ q
    obtain ⟨⟨T, id, ty, lk⟩, run⟩ := hr pins s5 σ J x v s4.heap.objs.size t Q I5 rx (Heap.IsSliceOf.new ..) q
    exact tail_any (ops := [v, .ref s4.heap.objs.size]) ty lk run (by with_unfolding_all rfl)
def rBackT (K : PySem.W.Frag) : V → Hp → VK → Prop := fun x H Q => ∃ a xs, x = .ref a ∧ SqT K H a xs ∧ ∀ p, H p = none → Q (.ref p) (upd H p (.tup xs.reverse))
def rBackS : V → Hp → VK → Prop := fun x H Q => ∃ z : Str, x = .str z ∧ z.length ≤ sizeLine ∧ Q (.str ⟨z.cps.toList.reverse.toArray⟩) H
theorem adj_back (n : Nat) : Builtin.Slice.sliceAdjust none none (-1) (n : Int) = ((n : Int) - 1, -1) := rfl
theorem places_back (n : Nat) : Builtin.Slice.slicePlaces ((n : Int) - 1) (-1) (-1) = n := by
  (unfold Builtin.Slice.slicePlaces)
  rw [if_neg (by decide)]
  split
  · rw [show (-(-1) : Int) = 1 from rfl, Int.ediv_one]; omega
  · omega
theorem fm_same {α β : Type} {f g : α → Option β} : ∀ {l : List α}, (∀ a ∈ l, f a = g a) → l.filterMap f = l.filterMap g
  | [], _ => rfl
  | a :: l, h => by rw [List.filterMap_cons, List.filterMap_cons, h a List.mem_cons_self, fm_same fun b hb => h b (List.mem_cons_of_mem _ hb)]
theorem pick_back (xs : Array Value) : (List.range xs.size).filterMap (fun (k : Nat) => xs[((xs.size : Int) - 1 + (k : Int) * -1).toNat]?) = xs.toList.reverse := by
  have e : ∀ k ∈ List.range xs.size, xs[((xs.size : Int) - 1 + (k : Int) * -1).toNat]? = ((fun i => xs[i]?) ∘ fun k => xs.size - 1 - k) k := fun k hk => by
    have := List.mem_range.mp hk
    show _ = xs[xs.size - 1 - k]?
    congr 1
    omega
  rw [fm_same e, ← List.filterMap_map, PySem.W.krv_range, List.filterMap_reverse, PySem.W.krv_all]
theorem slot_none {M : Model} {A : Around} {E : Value → Shared → Prop} {s : Shared} {Q : Option Int → Shared → Prop} (h : Q none s) : wpAny M A (Builtin.Slice.slicePartIndex .none) Q E s := by
  (unfold Builtin.Slice.slicePartIndex)
  exact wpAny_pure h
theorem applied_back {prog : Program} {w : World} {A : Around} {E : Value → Shared → Prop} {s : Shared} {sl : Addr} {t : Tok} {n : Nat} {Q : Int × Int × Nat → Shared → Prop} (hs : s.heap.IsSliceOf sl .none .none (.int (-1) t))
    (h : Q ((n : Int) - 1, -1, n) s) : wpAny (model prog w) A (Builtin.Slice.sliceApplied (.ref sl) (pure (n : Int))) Q E s := by
  obtain ⟨ob, g, c, d⟩ := hs
  (unfold Builtin.Slice.sliceApplied Builtin.Slice.sliceFields)
  refine wpAny_bind (wpAny_bind (wpAny_field g d (x := .none) rfl (wpAny_bind (wpAny_field g d (x := .none) rfl (wpAny_bind (wpAny_field g d (x := .int (-1) t) rfl (wpAny_pure ?_)))))))
  refine wpAny_bind (HT.slicePart_ (.int (-1) t) ?_)
  refine wpAny_bind (HT.slicePart_ .none (wpAny_bind (HT.slicePart_ .none (wpAny_bind (wpAny_pure ?_)))))
  show wpAny _ _ (match Builtin.Slice.sliceAdjust none none (-1) (n : Int) with | (lo, hi) => pure (lo, (-1 : Int), Builtin.Slice.slicePlaces lo hi (-1))) _ _ s
  rw [adj_back]
  show wpAny _ _ (pure ((n : Int) - 1, (-1 : Int), Builtin.Slice.slicePlaces ((n : Int) - 1) (-1) (-1))) _ _ s
  rw [places_back]
  exact wpAny_pure h
/-- what the tuple's own method makes of that slice -/
theorem meets_tup_back (a sl : Addr) (items : Array Value) (t : Tok) : Meets (Builtin.«tuple.__getitem__» ⟨[.ref a, .ref sl], []⟩) (fun _ R s => (IsTup s.heap a items ∧ s.heap.IsSliceOf sl .none .none (.int (-1) t) ∧ items.size ≤ sizeLine) ∧
    R (.ok (.ret (.ref s.heap.objs.size))) { s with heap := s.heap.push { cls := .type "tuple", data := .seq items.toList.reverse.toArray } }) := by
  refine .of_wp fun prog w A R s ⟨⟨ht, hs, hz⟩, done⟩ => ?_
  obtain ⟨_, g, c, _⟩ := id hs
  show wpAny _ _ (Builtin.Tuple.tupleItemsOf _ >>= _) _ _ s
  refine wpAny_bind (PyProof.Rows.tupleItemsOf_ ht (wpAny_bind (wpAny_typeOf (v := .ref sl) ⟨_, g, c⟩ ?_)))
  refine wpAny_ite_true (by decide) (wpAny_bind (applied_back hs ?_))
  refine wpAny_ite_false (by simp) ?_
  have so : sizeOk (.seq items.toList.reverse.toArray) := show items.toList.reverse.toArray.size ≤ sizeLine by simpa using hz
  rw [pick_back]
  (unfold Builtin.Tuple.tupleExact)
  exact wpAny_bind (wpAny_newObj_type (wpAny_pure ⟨_, rfl, done⟩) so)
theorem back_tup {X : Cx} : SlBack X (rBackT X.K) := by
  intro pins s σ H x v sl t Q I rx hs h
  obtain ⟨a, xs, rfl, at_a, q⟩ := h
  have ev : v = Value.ref a := rx
  subst ev
  obtain ⟨its, rv, ht, hz⟩ := I.tuple at_a
  have few : its.toArray.size ≤ sizeLine := by rw [List.size_toArray, ← rv.length]; exact hz
  have end_ : EP X pins σ Q (.ref s.heap.objs.size) { s with heap := s.heap.push { cls := .type "tuple", data := .seq its.toArray.toList.reverse.toArray } } :=
    ⟨.ref _, _, I.laid (t' := s.toks) (o := .tup xs.reverse) (fun b ob e => Heap.get?_push_of_some _ e) (Nat.le_refl _) ⟨(List.length_reverse (as := xs)).symm ▸ hz, _, rv.reverse, IsTup.new _ _⟩, rfl, q _ (I.hok.fresh (Nat.le_refl _))⟩
  refine ⟨⟨"tuple", _, ht.typeIs, PyProof.Rows.slot_tuple_getitem.lookup⟩, ?_⟩
  have asked := call_meets (A := X.A) (w := X.w) (prog := X.prog) (Q := EP X pins σ Q) (E := X.xe) PyProof.Rows.slot_tuple_getitem ht.typeIs entry_tuple_getitem (args_tuple_getitem _ _) (meets_tup_back a sl its.toArray t) ⟨⟨ht, hs, few⟩, end_⟩
  unfold getItem
  exact wpAny_holding (wpAny_bind (wpAny_sequenceKey ht.typeIs (by decide) (wpAny_bind (wpAny_callSpecial?_slot (name := Str.ofString "__getitem__") ht.typeIs PyProof.Rows.slot_tuple_getitem (thn asked fun r s' z => wpAny_pure z)))))
theorem back_str {X : Cx} : SlBack X rBackS := by
  intro pins s σ H x v sl t Q I rx hs h
  obtain ⟨z, rfl, hz, q⟩ := h
  obtain ⟨tz, rfl⟩ := rx
  refine ⟨⟨"str", _, typeIs_str _ _ _, F.slot_str_getitem.lookup⟩, ?_⟩
  refine wpAny_getItem_str_slice (l := none) (u := none) (st := some (-1, t)) hs rfl ?_
  have e : (Builtin.Str.strSliceIndices none none (-1) z.length).filterMap (z.cps[·]?) = z.cps.toList.reverse := by
    rw [PyProof.Rows.picked_rev]
    show ((List.range z.cps.size).map fun k => z.cps.size - 1 - k).filterMap _ = _
    rw [PySem.W.krv_range, List.filterMap_reverse, PySem.W.krv_all]
  show Made.post (if ((-1 : Int) == 1 && (Builtin.Str.strSliceIndices none none (-1) z.length).length == z.length) = true then Made.val (.str z tz)
    else Made.str ⟨((Builtin.Str.strSliceIndices none none (-1) z.length).filterMap (z.cps[·]?)).toArray⟩) (EP X pins σ Q) s
  rw [if_neg (by rw [show ((-1 : Int) == 1) = false from rfl, Bool.false_and]; exact Bool.false_ne_true), e]
  refine ⟨?_, .str _, H, I.tok _, ⟨_, rfl⟩, q⟩
  show z.cps.toList.reverse.toArray.size ≤ sizeLine
  rw [List.size_toArray, List.length_reverse]
  exact hz
/-! ### comprehensions over a tuple of pairs -/
theorem mono_pair {K : PySem.W.Frag} {i j : Nat} {x : V} {τ : L2.St} {H : Hp} {P P' : L2.St → Hp → Prop} (h : ∀ τ H, P τ H → P' τ H) (q : gTup K 2 (gCons (gName i) (gCons (gName j) gNil)) x τ H P) : gTup K 2 (gCons (gName i) (gCons (gName j) gNil)) x τ H P' := by
  obtain ⟨a, xs, e1, e2, e3, v, ys, e4, w, zs, e5, e6, q⟩ := q
  exact ⟨a, xs, e1, e2, e3, v, ys, e4, w, zs, e5, e6, h _ _ q⟩
theorem lc_tup2 {K K' : PySem.W.Frag} {H : Hp} {a : Addr} {xs : List V} {j k : Nat} {te : TE} {vs : List Nat} {σ : L2.St} {Q : VK} (ha : H a = some (.tup xs)) (hz : xs.length ≤ 60000) (f : Nat → V)
    (hs : ∀ d, H d = none → ∀ i x H' (QE : VK), xs[i]? = some x → Ext H H' → (∀ H4, Ext H' H4 → QE (f i) H4) → gTup K' 2 (gCons (gName j) (gCons (gName k) gNil)) x (wipe σ vs) H' fun σ2 H2 => wipe σ2 vs = wipe σ vs ∧ te σ2 H2 QE)
    (hd : ∀ d, H d = none → ∀ H', Ext H H' → H' d = some (.lst ((List.range xs.length).map f)) → Q (.ref d) H') : Lcs (Itt K a) (gTup K' 2 (gCons (gName j) (gCons (gName k) gNil))) te vs σ H Q :=
  lc_all walk_tup ((List.range xs.length).map f) (by simp) hz (fun _ e => SqT.of (e _ _ ha)) (fun d nd i x y H1 H' QE hy e y1 q => by
    obtain ⟨rfl, e1⟩ := y1
    have hi : i < xs.length := (List.getElem?_eq_some_iff.mp e1).1
    have ey : y = f i := by
      rw [List.getElem?_map, List.getElem?_range hi] at hy
      exact (Option.some.inj hy).symm
    exact hs d nd i x _ QE e1 e fun H4 e4 => ey ▸ q H4 e4) mono_pair hd
/-! ### f(k = v, ..): keywords alone -/
def tCallN0 (m : Nat) (sp : Sp) (gV : List V → List V → List V) (E : XK) (tk : TA) : TE := fun σ H Q => tk σ H fun zs H1 => zs.length = m ∧ sp (gV [] zs) H1 Q E
theorem go_callN0 {m : Nat} {sp : Sp} {gV : List V → List V → List V} {E : XK} {tk : TA} {σ : L2.St} {H : Hp} {Q : VK} (h : tk σ H fun zs H1 => zs.length = m ∧ sp (gV [] zs) H1 Q E) : tCallN0 m sp gV E tk σ H Q := h
theorem pe_callN0 {X : Cx} {CX : CXT} {k : Nat} {f : Addr} {fd : FuncData} {ps ks : List Str} {sp : Sp} {E : XK} {x : Str} {p pos : Pos} {kws : List Keyword} {tk : TA} {g : List Value → List Value → List Value} {gV : List V → List V → List V}
    (F : FnOk X.prog X.w X.K X.mg X.base CX k f fd ps sp) (hr : Room k X.A) (hg : Gl X x) (hm : X.mg x = some (.ref f)) (hk : PySem.W.keepIn X.K (.ref f) = true) (hb : KBn X.K fd ps 0 ks g gV) (hx : Passes CX X E) (hkw : PK X kws tk)
    (named : (backToKw pos (keywordEach kws X.env)).all (·.1.isSome) = true := by rfl) (names : (backToKw pos (keywordEach kws X.env)).filterMap (·.1) = ks := by rfl) (nd : (x == ("__debug__" : Str)) = false := by decide)
    (plain : ((backTo pos (starEach [] X.env)).any (·.1) || (backToKw pos (keywordEach kws X.env)).any (·.1.isNone)) = false := by rfl) : PE X (.Call (.Name x p) [] kws pos) (tCallN0 ks.length sp gV E tk) := by
  constructor
  intro pins s σ H Q I h
  refine wpAny_Call_Name_kw (ld_glob I hg hm (PySem.W.callWith_KW0 (h₀ := X.base) I.ok.mod.kin hk named ?_ plain) nd)
  refine thn (hkw.run pos pins s σ H _ I h) fun ws s2 z => ?_
  obtain ⟨zs, H2, I2, rz, l2, q2⟩ := z
  refine ⟨I2.kIn, ?_⟩
  rw [names]
  exact run_fnN (us := []) (vs := []) F hr hb hx I2 .nil rz rfl l2 q2
/-- the order of two keywords turned round -/
def gSwap {α : Type} : List α → List α → List α
  | _, [a, b] => [b, a]
  | _, ws => ws
theorem relSwap {vs : List V} {us : List Value} {zs : List V} {ws : List Value} (a : Vals vs us) (b : Vals zs ws) : Vals (gSwap vs zs) (gSwap us ws) := by
  cases b with
  | nil => exact .nil
  | cons p b => cases b with
    | nil => exact .cons p .nil
    | cons q b => cases b with
      | nil => exact .cons q (.cons p .nil)
      | cons r b => exact .cons p (.cons q (.cons r b))
def gSame {α : Type} : List α → List α → List α := fun _ ws => ws
theorem relSame {vs : List V} {us : List Value} {zs : List V} {ws : List Value} (a : Vals vs us) (b : Vals zs ws) : Vals (gSame vs zs) (gSame us ws) := b
end At

namespace At
open L2 PyProof.Rows PySem.Spec PySem
/-! ### a tuple whose own record is known: it has no dict, so its methods can be called -/
def Frt (H : Hp) (a : Addr) (xs : List V) : Prop := ∃ o : Obj, H a = some (.frz o (.tup xs)) ∧ o.dict = none
theorem Frt.ext {H H' : Hp} {a : Addr} {xs : List V} (h : Frt H a xs) (e : Ext H H') : Frt H' a xs := let ⟨o, h1, h2⟩ := h; ⟨o, e _ _ h1, h2⟩
section
variable {pins : List (Addr × Obj)} {σ : L2.St} {H : Hp} {s : Shared} {X : Cx}
theorem frt_ok {a : Addr} {xs : List V} (I : Inv X pins σ H s) (h : Frt H a xs) : ∃ its : List Value, Vals xs its ∧ IsTup s.heap a its.toArray ∧ ∃ o, s.heap.get? a = some o ∧ o.dict = none := by
  obtain ⟨o, h1, h2⟩ := h
  obtain ⟨e, _, its, rv, p⟩ := (show ObjOk X.prog X.w H s.heap a (.frz o (.tup xs)) from I.hok a _ h1)
  exact ⟨its, rv, p, o, e, h2⟩
/-- tuple(list): as a tuple, or as one whose record is known -/
def rTupF (K : PySem.W.Frag) : List V → Hp → VK → Prop := fun vs H Q => ∃ p ys, vs = [.ref p] ∧ SqL K H p ys ∧
  ((∀ l, H l = none → Q (.ref l) (upd H l (.tup ys))) ∨ ∀ l o, H l = none → o.dict = none → Q (.ref l) (upd H l (.frz o (.tup ys))))
theorem call_tupF : CallR X (.type "tuple") (rTupF X.K) := by
  intro pins s σ H xs us Q I r ⟨p, ys, ex, hq, h⟩
  subst ex
  rw [Vals.ref1 r]
  (obtain ⟨its, rv, pl, hz⟩ := I.list hq)
  have hl := rv.length
  refine PySem.call_tuple_list pl.isList (fun h' kp => ?_) (by rw [List.size_toArray, ← hl]; exact hz)
  have J : Inv X pins σ H { s with heap := h' } := I.kept (t' := s.toks) kp
  have new : H h'.objs.size = none := J.hok.fresh (Nat.le_refl _)
  have old : ∀ b o, h'.get? b = some o → (h'.push { cls := .type "tuple", data := .seq its.toArray }).get? b = some o := fun b o e => Heap.get?_push_of_some _ e
  rcases h with h | h
  · exact ⟨.ref h'.objs.size, _, J.laid (t' := s.toks) (o := .tup ys) old (Nat.le_refl _) ⟨hz, its, rv, IsTup.new _ _⟩, rfl, h _ new⟩
  · refine ⟨.ref h'.objs.size, _, J.laid (t' := s.toks) (o := .frz { cls := .type "tuple", data := .seq its.toArray } (.tup ys)) old (Nat.le_refl _) ⟨Heap.get?_push_size _ rfl, hz, its, rv, IsTup.new _ _⟩, rfl, h _ _ new rfl⟩
/-- max(t) of such a tuple -/
def rMostF (f : Int → Int → Int) : List V → Hp → VK → Prop := fun vs H Q => ∃ (a : Addr) (n : Int) (ns : List Int), vs = [.ref a] ∧ Frt H a (.int n :: ns.map .int) ∧ Q (.int (ns.foldl f n)) H
theorem cr_mostF {k : Nat} (hc : X.calm = true) (hr : Room k X.A) : CallR X (.builtin "max") (rMostF max) := by
  intro pins s σ H vs us Q I r ⟨a, n, ns, e, hs, q⟩
  subst e
  obtain ⟨its, rv, p, _⟩ := frt_ok I hs
  rw [Vals.ref1 r]
  refine PySem.W.max_tuple_data (x := .int n) (xs := ns.map .int) (as := []) (I.ok.hd hc) p (reads_nums (ns := n :: ns) rv) (alike_nums (n :: ns)) ?_ fun _ v h' tk bs _ rd hk => ?_
  · rw [show PyData.int n :: ns.map PyData.int = (n :: ns).map .int from rfl, flat_nums]
    have := hr.un
    omega
  · rw [PySem.W.maxD_ints] at rd
    exact ⟨_, H, I.kept hk, int_of_reads rd, q⟩
end
/-- t.index(k), k among the whole numbers of t -/
def tTidx (to te : TE) : TE := fun σ H Q => to σ H fun x H1 => ∃ (a : Addr) (ns : List Int), x = .ref a ∧ Frt H1 a (ns.map .int) ∧ te σ H1 fun y H2 => ∃ k, y = .int k ∧ k ∈ ns ∧ Frt H2 a (ns.map .int) ∧ Q (.int (ns.idxOf k : Nat)) H2
theorem go_tidx {σ : L2.St} {H : Hp} {Q : VK} {to te : TE} (h : to σ H fun x H1 => ∃ (a : Addr) (ns : List Int), x = .ref a ∧ Frt H1 a (ns.map .int) ∧ te σ H1 fun y H2 => ∃ k, y = .int k ∧ k ∈ ns ∧ Frt H2 a (ns.map .int) ∧ Q (.int (ns.idxOf k : Nat)) H2) : tTidx to te σ H Q := h
section
variable {X : Cx} {o e : Expr} {to te : TE} {apos cpos : Pos}
theorem pe_tidx (ho : PE X o to) (he : PE X e te) (hb : attributeBase o "index" X.env (eval o X.env) = eval o X.env := by rfl)
    (few : ((backTo cpos (starEach [e] X.env)).all (fun x => !x.1) && (backToKw cpos (keywordEach [] X.env)).all (fun x => x.1.isSome) && decide (([e] : List Expr).length + ([] : List Keyword).length + (if ([] : List Keyword).isEmpty then 0 else 1) < 30)) = true := by rfl)
    (line : (apos.endLine == cpos.line) = true := by rfl) (hs : starEach [e] X.env = (false, eval e X.env) :: starEach [] X.env := by rfl) (plain : (backTo cpos (starEach [] X.env)).any (·.1) = false := by rfl) :
    PE X (.Call (.Attribute o "index" apos) [e] [] cpos) (tTidx to te) := by
  have args : PA X [e] (tCons te tNil) := pa_cons he pa_nil hs
  constructor
  intro pins s σ H Q I h
  refine wpAny_Call_method_late hb few line rfl (thn (ho.run pins s σ H _ I h) fun v s1 z => ?_)
  obtain ⟨x, H1, I1, rx, a, ns, rfl, ft, q⟩ := z
  (cases (show v = Value.ref a from rx))
  obtain ⟨its, _, ⟨ob, g, c, _⟩, ob', g', nod⟩ := frt_ok I1 ft
  refine ⟨"tuple", "tuple.index", PySem.F.plainAttrs_tuple, PySem.F.slot_tuple_index, PySem.F.type_tuple_index, ⟨ob, g, c⟩, fun b eb => ?_, ?_⟩
  · cases eb
    exact ⟨ob', g', nod⟩
  have got := args.run cpos pins s1 σ H1 (fun vs H2 => ∃ k, vs = [V.int k] ∧ k ∈ ns ∧ Frt H2 a (ns.map .int) ∧ Q (.int (ns.idxOf k : Nat)) H2) I1 (go_cons (show te σ H1 _ from by
    have e1 : (fun (y : V) (H2 : Hp) => tNil σ H2 fun xs H3 => ∃ k, (y :: xs : List V) = [V.int k] ∧ k ∈ ns ∧ Frt H3 a (ns.map .int) ∧ Q (.int (ns.idxOf k : Nat)) H3) = fun y H2 => ∃ k, y = .int k ∧ k ∈ ns ∧ Frt H2 a (ns.map .int) ∧ Q (.int (ns.idxOf k : Nat)) H2 := by
      funext y H2
      apply propext
      constructor
      · rintro ⟨k, e, r⟩
        exact ⟨k, (List.cons.inj e).1, r⟩
      · rintro ⟨k, e, r⟩
        exact ⟨k, by rw [e], r⟩
    rw [e1]
    exact q))
  rw [hs] at got ⊢
  refine Calls.callWith_builtin (by show (false || (backTo cpos (starEach [] X.env)).any (·.1)) = false; rw [plain]; rfl) (Calls.evalArgs_plain ?_)
  refine thn got fun us s2 w => ?_
  obtain ⟨vs, H2, I2, r2, k, rfl, hk, ft2, q2⟩ := w
  obtain ⟨its2, rv2, p2, _⟩ := frt_ok I2 ft2
  match us, r2 with
  | [u], .cons ru .nil =>
    obtain ⟨t, rfl⟩ := (show ∃ t, u = Value.int k t from ru)
    exact PySem.SeqAt.tuple_index_ints p2 (Vals.ints rv2) hk ⟨.int (ns.idxOf k : Nat), H2, I2.tok _, ⟨_, rfl⟩, q2⟩
end
/-- C(*y): a new instance, its parameters the items of y -/
def tMakeS (K : PySem.W.Frag) (C : Addr) (sp : Sp) (E : XK) (te : TE) : TE := fun σ H Q => te σ H fun y H1 => ∃ a xs, y = V.ref a ∧ (SqT K H1 a xs ∨ SqL K H1 a xs) ∧
  ∀ x dx, H1 x = none → H1 dx = none → dx ≠ x → sp (.ref x :: xs) (upd (upd H1 dx (.own x)) x (.ins C dx [])) (fun v H2 => v = .non ∧ Q (.ref x) H2) E
theorem go_makeS {K : PySem.W.Frag} {C : Addr} {sp : Sp} {E : XK} {te : TE} {σ : L2.St} {H : Hp} {Q : VK} (h : te σ H fun y H1 => ∃ a xs, y = V.ref a ∧ (SqT K H1 a xs ∨ SqL K H1 a xs) ∧
  ∀ x dx, H1 x = none → H1 dx = none → dx ≠ x → sp (.ref x :: xs) (upd (upd H1 dx (.own x)) x (.ins C dx [])) (fun v H2 => v = .non ∧ Q (.ref x) H2) E) : tMakeS K C sp E te σ H Q := h
theorem pe_makeS {X : Cx} {CX : CXT} {k : Nat} {f C : Addr} {sp : Sp} {E : XK} {x : Str} {e : Expr} {te : TE} {p q pos : Pos} (M : Mk X.K C f) (F : FnR X.prog X.w X.K X.mg X.base CX k f sp) (hr : Room (k + 1) X.A) (hg : Gl X x) (hm : X.mg x = some (.ref C)) (hx : Passes CX X E) (he : PE X e te)
    (hd : (x == ("__debug__" : Str)) = false := by decide) (one : starEach [.Starred e q] X.env = [(true, eval e X.env)] := by rfl) : PE X (.Call (.Name x p) [.Starred e q] [] pos) (tMakeS X.K C sp E te) := by
  constructor
  intro pins s σ H Q I h
  refine wpAny_Call_Name_kw (ld_glob I hg hm (PySem.W.callWith_S (h₀ := X.base) I.ok.mod.kin M.kp (thn (he.run pins s σ H _ I h) fun v s1 z => ?_) one) hd)
  obtain ⟨y, J, I1, ry, a, xs, rfl, hxs, made⟩ := z
  cases (show v = Value.ref a from ry)
  exact StX.star_any I1 hxs fun us s2 I2 rv => ⟨I2.kIn, StX.run_makeR M F hr hx I2 rv made⟩
end At

namespace At
open L2 PyProof.Rows PySem.Spec PySem
/-! ### what the head is asked of an own class -/
def GR : Int := 10 ^ 60 * 10 ^ 60 * 10 ^ 60 * 10 ^ 60 * 10 ^ 60
def MT : Int := 10 ^ 62 * 10 ^ 62 * 10 ^ 62 * 10 ^ 62 * 10 ^ 62
def method (K : PySem.W.Frag) (c m : Str) : Addr := He.ma K (He.ga K c) m
/-- where the property's own object stands, and its getter -/
def propAt (K : PySem.W.Frag) (c p : Str) : Addr := match PySem.W.findIn K (.ref (He.ga K c)) p with
  | some (some (.ref a)) => a
  | _ => 0
def getter (K : PySem.W.Frag) (c p : Str) : Addr := match PySem.W.recIn K (propAt K c p) "property" with
  | some (.ref g :: _) => g
  | _ => 0
def atG (x : Str) (s : Stmt) : He5.DefA := ⟨fun K => He.ga K x, x, x, defArgs s, defBody s, defScope s, [], []⟩
def atM (c m q : Str) (s : Stmt) : He5.DefA := ⟨fun K => method K c m, m, q, defArgs s, defBody s, defScope s, [], []⟩
def atP (c m q : Str) (s : Stmt) : He5.DefA := ⟨fun K => getter K c m, m, q, defArgs s, defBody s, defScope s, [], []⟩
def starts (g : Addr) : Option (List Value) → Bool
  | some (v :: _) => v == .ref g
  | _ => false
def propOk (K : PySem.W.Frag) (c p : Str) : Bool := decide (PySem.W.findIn K (.ref (He.ga K c)) p = some (some (.ref (propAt K c p)))) && (decide (PySem.W.specialIn K (.ref (propAt K c p)) "__get__" = some (some (.builtin "property.__get__"))) &&
  (decide (PySem.W.takesIn K (.ref (propAt K c p)) = some true) && starts (getter K c p) (PySem.W.recIn K (propAt K c p) "property")))
def eqOk (K : PySem.W.Frag) (c : Str) : Bool := decide (PySem.W.findIn K (.ref (He.ga K c)) "__eq__" = some (some (.ref (method K c "__eq__")))) && (PySem.W.isFn K (.ref (method K c "__eq__")) &&
  (decide (PySem.W.findIn K (.ref (He.ga K c)) "__ne__" = some (some (.builtin "object.__ne__"))) && decide (PySem.W.mroIn K (He.ga K c) (.type "object") = some true)))
def isOk (K : PySem.W.Frag) (c : Str) : Bool := decide (PySem.W.findIn K (.ref (He.ga K c)) "__class__" = some (some (.builtin "object.__class__"))) && (decide (PySem.W.specialIn K (.builtin "object.__class__") "__get__" = some (some (.builtin "getset_descriptor.__get__"))) &&
  (decide (PySem.W.takesIn K (.builtin "object.__class__") = some true) && (decide (PySem.W.mroIn K (He.ga K c) (.type "object") = some true) && (decide (PySem.W.kitOne K (.type "tuple") (.ref (He.ga K c)) = some false) && PySem.W.notFirst K (He.ga K c) (.type "tuple")))))
section
variable {K : PySem.W.Frag} {c p : Str}
theorem propOk.of (h : propOk K c p = true) : PropOf K (He.ga K c) p (propAt K c p) (getter K c p) := by
  unfold propOk at h
  (simp only [Bool.and_eq_true, decide_eq_true_eq] at h)
  obtain ⟨h1, h2, h3, h4⟩ := h
  refine ⟨h1, h2, h3, ?_⟩
  match e : PySem.W.recIn K (propAt K c p) "property", h4 with
  | some (v :: r), h4 => exact ⟨r, by rw [eq_of_beq (show (v == .ref (getter K c p)) = true from h4)]⟩
theorem eqOk.of (h : eqOk K c = true) : EqAt_ K (He.ga K c) (method K c "__eq__") := by
  unfold eqOk at h
  (simp only [Bool.and_eq_true, decide_eq_true_eq] at h)
  obtain ⟨h1, h2, h3, h4⟩ := h
  exact ⟨h1, h2, h3, h4⟩
/-- an instance's class, as isinstance and == see it -/
theorem isOk.ty (h : isOk K c = true) (cl : Cls K (He.ga K c)) {H : Hp} {a dx : Addr} {fs : List (Str × V)} (e : H a = some (.ins (He.ga K c) dx fs)) : TyX K H (.ref a) (.ref (He.ga K c)) := by
  unfold isOk at h
  (simp only [Bool.and_eq_true, decide_eq_true_eq] at h)
  obtain ⟨h1, h2, h3, h4, _⟩ := h
  exact .base (.ins e cl h1 h2 h3 h4)
theorem isOk.no (h : isOk K c = true) : PySem.W.kitOne K (.type "tuple") (.ref (He.ga K c)) = some false := by
  unfold isOk at h
  (simp only [Bool.and_eq_true, decide_eq_true_eq] at h)
  exact h.2.2.2.2.1
theorem isOk.tup (h : isOk K c = true) : PySem.W.notFirst K (He.ga K c) (.type "tuple") = true := by
  unfold isOk at h
  (simp only [Bool.and_eq_true, decide_eq_true_eq] at h)
  exact h.2.2.2.2.2
theorem same_first (C : Addr) : PySem.W.notFirst K C (.ref C) = true := by
  unfold PySem.W.notFirst
  rw [show (Value.ref C == Value.ref C) = true from beq_self_eq_true _, Bool.true_or]
theorem same_kit (C : Addr) : PySem.W.kitOne K (.ref C) (.ref C) = some true := by
  unfold PySem.W.kitOne
  (rw [if_pos (beq_self_eq_true _)])
end
/-- a def's promise, where it stands -/
def OkD (P : Program) (w : World) (K : PySem.W.Frag) (mg : Str → Option Value) (base : Heap) (k : Nat) (f : Addr) (ps : List Str) (sp : Sp) : Prop :=
  ∃ fd, FnOk P w K mg base CX0 k f fd ps sp ∧ Binds K fd ps [] ∧ PySem.W.keepIn K (.ref f) = true
theorem plainR {P : Program} {w : World} {K : PySem.W.Frag} {mg : Str → Option Value} {base : Heap} {CX : CXT} {k : Nat} {f : Addr} {fd : FuncData} {ps : List Str} {sp : Sp} (F : FnOk P w K mg base CX k f fd ps sp) (b : Binds K fd ps []) : FnR P w K mg base CX k f sp :=
  (F.raw b .nil).imp fun vs H Q E h => by rw [List.append_nil]; exact h
/-- f(k = v, ..) and C(k = v, ..): all parameters by keywords -/
theorem kbn_of {K : PySem.W.Frag} {x q : Str} {st : Stmt} {f : Addr} {fd : FuncData} {ps : List Str} (F : Fun K x q st f fd) (n : Nat) (ks : List Str) (g : {α : Type} → List α → List α → List α) (hr : ∀ {vs : List V} {us : List Value} {zs : List V} {ws : List Value}, Vals vs us → Vals zs ws → Vals (g vs zs) (g us ws))
    (h : ∀ (kV doc pm : Value) (an : Option Addr) (cdv ct : Value) (us ws : List Value), us.length = n → ws.length = ks.length → bindArgs (PySem.W.fnOf x q (defArgs st) (defBody st) (defScope st) .none kV doc pm an cdv ct) ⟨us, ks.zip ws⟩ = pure (ps.zip (g us ws))) :
    KBn K fd ps n ks (fun us ws => g us ws) (fun vs zs => g vs zs) := by
  obtain ⟨_, _, kV, doc, pm, an, cdv, ct, _, rfl, _, _⟩ := F.ex
  exact ⟨fun s us ws _ l1 l2 => .of_eq (h kV doc pm an cdv ct us ws l1 l2), hr⟩
end At

/-! Arrowtrios: turns, words and what they lead to. Plain Lean. -/
namespace At
inductive P3 where
  | a | b | c
  deriving DecidableEq
def P3.i : P3 → Int
  | .a => 0
  | .b => 1
  | .c => 2
abbrev T3 := Int × Int × Int
def push (u v w : Int) : Int := if 0 < u ∧ 0 < v then w - u * v else if u < 0 ∧ v < 0 then w + u * v else w
def turn : P3 → T3 → T3
  | .a, (x, y, z) => (-x, push z x y, -z)
  | .b, (x, y, z) => (-x, -y, push x y z)
  | .c, (x, y, z) => (push y z x, -y, -z)
def co : P3 → T3 → Int
  | .a, (_, _, z) => z
  | .b, (x, _, _) => x
  | .c, (_, y, _) => y
def go : P3 → T3 → Int
  | .a, (x, _, _) => x
  | .b, (_, y, _) => y
  | .c, (_, _, z) => z
def opp : P3 → T3 → Int
  | .a, (_, y, _) => y
  | .b, (_, _, z) => z
  | .c, (x, _, _) => x
def nat (i : Int) : Int := if i < 0 then -i else i
theorem push_push (u v w : Int) : push (-u) (-v) (push u v w) = w := by
  unfold push
  have e : -u * -v = u * v := by rw [Int.neg_mul_neg]
  rw [e]
  by_cases h1 : 0 < u ∧ 0 < v
  · rw [if_pos h1, if_neg (by omega), if_pos (by omega)]; omega
  · by_cases h2 : u < 0 ∧ v < 0
    · rw [if_pos (show 0 < -u ∧ 0 < -v by omega), if_neg h1, if_pos h2]; omega
    · rw [if_neg (show ¬ (0 < -u ∧ 0 < -v) by omega), if_neg (show ¬ (-u < 0 ∧ -v < 0) by omega), if_neg h1, if_neg h2]
theorem drop_last {p : P3} : ∀ {l : List P3}, l.getLast? = some p → l = l.dropLast ++ [p]
  | [], h => by simp at h
  | [q], h => by
    have e : q = p := by simpa using h
    rw [e]
    rfl
  | q :: r :: l, h => by
    (rw [List.getLast?_cons_cons] at h)
    have ih := drop_last h
    show q :: r :: l = q :: (r :: l).dropLast ++ [p]
    rw [List.cons_append, ← ih]
theorem turn_turn (p : P3) (t : T3) : turn p (turn p t) = t := by
  obtain ⟨x, y, z⟩ := t
  cases p <;> simp only [turn, push_push, Int.neg_neg]
def walk (t : T3) (ps : List P3) : T3 := ps.foldl (fun t p => turn p t) t
theorem walk_nil (t : T3) : walk t [] = t := rfl
theorem walk_cons (t : T3) (p : P3) (ps : List P3) : walk t (p :: ps) = walk (turn p t) ps := rfl
theorem walk_append (t : T3) (ps qs : List P3) : walk t (ps ++ qs) = walk (walk t ps) qs := by
  unfold walk
  rw [List.foldl_append]
theorem walk_back : ∀ (ps : List P3) (t : T3), walk (walk t ps) ps.reverse = t
  | [], t => rfl
  | p :: ps, t => by
    rw [walk_cons, List.reverse_cons, walk_append, walk_back ps (turn p t), walk_cons, walk_nil, turn_turn]
/-- so many times a word -/
def many : Nat → List P3 → T3 → T3
  | 0, _, t => t
  | n + 1, ps, t => many n ps (walk t ps)
theorem many_add (ps : List P3) : ∀ (n m : Nat) (t : T3), many (n + m) ps t = many m ps (many n ps t)
  | 0, m, t => by rw [Nat.zero_add]; rfl
  | n + 1, m, t => by
    rw [show n + 1 + m = (n + m) + 1 by omega]
    show many (n + m) ps (walk t ps) = many m ps (many n ps (walk t ps))
    exact many_add ps n m _
theorem many_mul (ps : List P3) (m : Nat) : ∀ (n : Nat) (t : T3), (∀ s, many m ps s = s) → many (n * m) ps t = t
  | 0, t, _ => by rw [Nat.zero_mul]; rfl
  | n + 1, t, h => by rw [Nat.succ_mul, many_add, many_mul ps m n t h, h]
/-- a round that leads back to t falls out -/
theorem many_round (ps : List P3) (m : Nat) (t : T3) (h : many m ps t = t) (n : Nat) : many n ps t = many (n % m) ps t := by
  have hk : ∀ k, many (k * m) ps t = t := by
    intro k
    induction k with
    | zero => rw [Nat.zero_mul]; rfl
    | succ k ih => rw [Nat.succ_mul, many_add, ih, h]
  have e : n = (n / m) * m + n % m := by
    have := Nat.div_add_mod n m
    rw [Nat.mul_comm] at this
    exact this.symm
  have e2 : many n ps t = many ((n / m) * m + n % m) ps t := by rw [← e]
  rw [e2, many_add, hk]
theorem many_congr {ps qs : List P3} (h : ∀ t, walk t ps = walk t qs) : ∀ (n : Nat) (t : T3), many n ps t = many n qs t
  | 0, _ => rfl
  | n + 1, t => by
    show many n ps (walk t ps) = many n qs (walk t qs)
    rw [h, many_congr h n]
theorem many_around (w c : List P3) : ∀ (n : Nat) (t : T3), many n (w ++ c ++ w.reverse) t = walk (many n c (walk t w)) w.reverse
  | 0, t => (walk_back w t).symm
  | n + 1, t => by
    show many n (w ++ c ++ w.reverse) (walk t (w ++ c ++ w.reverse)) = walk (many n c (walk (walk t w) c)) w.reverse
    rw [many_around w c n, walk_append, walk_append]
    have e : ∀ s, walk (walk s w.reverse) w = s := fun s => by
      have := walk_back w.reverse s
      rw [List.reverse_reverse] at this
      exact this
    rw [e]
def rep (n : Nat) (ps : List P3) : List P3 := (List.replicate n ps).flatten
theorem rep_zero (ps : List P3) : rep 0 ps = [] := rfl
theorem rep_succ (n : Nat) (ps : List P3) : rep (n + 1) ps = ps ++ rep n ps := by
  unfold rep
  (rw [List.replicate_succ, List.flatten_cons])
theorem walk_rep (ps : List P3) : ∀ (n : Nat) (t : T3), walk t (rep n ps) = many n ps t
  | 0, _ => rfl
  | n + 1, t => by
    rw [rep_succ, walk_append, walk_rep ps n]
    rfl
theorem many_rep (ps : List P3) (k : Nat) : ∀ (n : Nat) (t : T3), many n (rep k ps) t = many (n * k) ps t
  | 0, t => by rw [Nat.zero_mul]; rfl
  | n + 1, t => by
    show many n (rep k ps) (walk t (rep k ps)) = _
    rw [many_rep ps k n, walk_rep, ← many_add, Nat.succ_mul, Nat.add_comm]
theorem rep_length (n : Nat) (ps : List P3) : (rep n ps).length = n * ps.length := by
  induction n with
  | zero => simp [rep_zero]
  | succ n ih => rw [rep_succ, List.length_append, ih, Nat.succ_mul, Nat.add_comm]
theorem many_even (p : P3) (n : Nat) (t : T3) : many n [p] t = many (n % 2) [p] t :=
  many_round [p] 2 t (turn_turn p t) n
/-! ### words without doubles -/
def red : List P3 → Prop
  | p :: q :: r => p ≠ q ∧ red (q :: r)
  | _ => True
theorem red_tail {p : P3} {r : List P3} (h : red (p :: r)) : red r := by
  cases r with
  | nil => trivial
  | cons q r => exact h.2
theorem red_append : ∀ {u v : List P3}, red (u ++ v) ↔ red u ∧ red v ∧ ∀ p q, u.getLast? = some p → v.head? = some q → p ≠ q
  | [], v => by simp [red]
  | [p], v => by
    cases v with
    | nil => simp [red]
    | cons q r =>
      show (p ≠ q ∧ red (q :: r)) ↔ (red [p] ∧ red (q :: r) ∧ ∀ p' q', [p].getLast? = some p' → (q :: r).head? = some q' → p' ≠ q')
      simp [red]
      exact And.comm
  | p :: q :: r, v => by
    have ih := red_append (u := q :: r) (v := v)
    show (p ≠ q ∧ red ((q :: r) ++ v)) ↔ ((p ≠ q ∧ red (q :: r)) ∧ red v ∧ ∀ p' q', (p :: q :: r).getLast? = some p' → v.head? = some q' → p' ≠ q')
    rw [ih, List.getLast?_cons_cons]
    exact ⟨fun ⟨h1, h2, h3, h4⟩ => ⟨⟨h1, h2⟩, h3, h4⟩, fun ⟨⟨h1, h2⟩, h3, h4⟩ => ⟨h1, h2, h3, h4⟩⟩
theorem red_rev : ∀ {u : List P3}, red u → red u.reverse
  | [], _ => trivial
  | p :: u, h => by
    rw [List.reverse_cons]
    refine red_append.mpr ⟨red_rev (red_tail h), trivial, fun x y hx hy => ?_⟩
    have e : p = y := by simpa using hy
    subst e
    rw [List.getLast?_reverse] at hx
    cases u with
    | nil => simp at hx
    | cons q r =>
      have e : q = x := by simpa using hx
      subst e
      exact fun z => h.1 z.symm
/-- the kept letters, the last one last -/
def keep (kept : List P3) (p : P3) : List P3 := if kept.getLast? = some p then kept.dropLast else kept ++ [p]
theorem keep_red {kept : List P3} {p : P3} (h : red kept) : red (keep kept p) := by
  unfold keep
  split
  · rename_i e
    have e2 : kept = kept.dropLast ++ [p] := drop_last e
    rw [e2] at h
    exact (red_append.mp h).1
  · rename_i e
    refine red_append.mpr ⟨h, trivial, fun x y hx hy z => ?_⟩
    have ey : p = y := by simpa using hy
    subst ey
    subst z
    exact e hx
theorem keep_walk {kept : List P3} {p : P3} (t : T3) : walk t (keep kept p) = turn p (walk t kept) := by
  unfold keep
  split
  · rename_i e
    have e2 : kept = kept.dropLast ++ [p] := drop_last e
    have e3 : walk t kept = turn p (walk t kept.dropLast) := by
      rw [show walk t kept = walk t (kept.dropLast ++ [p]) by rw [← e2], walk_append]
      rfl
    rw [e3, turn_turn]
  · rw [walk_append]
    rfl
def keeps (ps : List P3) : List P3 := ps.foldl keep []
theorem keeps_red (ps : List P3) : red (keeps ps) := by
  have : ∀ (ps k : List P3), red k → red (ps.foldl keep k) := by
    intro ps
    induction ps with
    | nil => intro k h; exact h
    | cons p ps ih => intro k h; exact ih _ (keep_red h)
  exact this ps [] trivial
theorem keeps_walk (ps : List P3) (t : T3) : walk t (keeps ps) = walk t ps := by
  have : ∀ (ps k : List P3), walk t (ps.foldl keep k) = walk (walk t k) ps := by
    intro ps
    induction ps with
    | nil => intro k; rfl
    | cons p ps ih =>
      intro k
      show walk t (ps.foldl keep (keep k p)) = walk (turn p (walk t k)) ps
      rw [ih, keep_walk]
  exact this ps []
theorem keeps_length (ps : List P3) : (keeps ps).length ≤ ps.length := by
  have : ∀ (ps k : List P3), (ps.foldl keep k).length ≤ k.length + ps.length := by
    intro ps
    induction ps with
    | nil => intro k; exact Nat.le_refl _
    | cons p ps ih =>
      intro k
      have h1 := ih (keep k p)
      have h2 : (keep k p).length ≤ k.length + 1 := by
        unfold keep
        split
        · rw [List.length_dropLast]; omega
        · rw [List.length_append]; exact Nat.le_refl _
      show (ps.foldl keep (keep k p)).length ≤ k.length + (ps.length + 1)
      omega
  have h := this ps []
  simpa [keeps] using h
/-! ### beyond a bound, off the foot -/
def ring : T3 → Prop
  | (x, y, z) => (0 < x ∧ 0 < y ∧ 0 < z) ∨ (x < 0 ∧ y < 0 ∧ z < 0)
def Beyond (G : Int) (p : P3) (t : T3) : Prop := G < nat (opp p t) ∧ ring t ∧ 2 ≤ nat (co p t) ∧ 2 ≤ nat (go p t) ∧ nat (co p t) * nat (go p t) < 2 * nat (opp p t)
theorem grow {G c d g : Int} (hG : G < g) (hc : 2 ≤ c) (hd : 2 ≤ d) (h : c * d < 2 * g) : G < d * g - c ∧ d * g < 2 * (d * g - c) ∧ 0 < d * g - c := by
  have h1 : c * 2 ≤ c * d := Int.mul_le_mul_of_nonneg_left hd (by omega)
  have h2 : 2 * g ≤ d * g := Int.mul_le_mul_of_nonneg_right hd (by omega)
  omega
theorem nat_pos {i : Int} (h : 0 < i) : nat i = i := by unfold nat; rw [if_neg (by omega)]
theorem nat_neg' {i : Int} (h : i < 0) : nat i = -i := by unfold nat; rw [if_pos h]
theorem push_pos {u v w : Int} (hu : 0 < u) (hv : 0 < v) : push u v w = w - u * v := by unfold push; rw [if_pos ⟨hu, hv⟩]
theorem push_neg {u v w : Int} (hu : u < 0) (hv : v < 0) : push u v w = w + u * v := by unfold push; rw [if_neg (by omega), if_pos ⟨hu, hv⟩]
/-- the three numbers at a place -/
def tri (p : P3) (u v w : Int) : T3 := match p with
  | .a => (v, w, u)
  | .b => (u, v, w)
  | .c => (w, u, v)
theorem tri_of (p : P3) (t : T3) : t = tri p (co p t) (go p t) (opp p t) := by
  obtain ⟨x, y, z⟩ := t
  cases p <;> rfl
theorem turn_tri (p : P3) (u v w : Int) : turn p (tri p u v w) = tri p (-u) (-v) (push u v w) := by cases p <;> rfl
def nxt : P3 → P3
  | .a => .b
  | .b => .c
  | .c => .a
theorem other {p q : P3} (h : p ≠ q) : q = nxt p ∨ p = nxt q := by
  cases p <;> cases q <;> first | exact absurd rfl h | exact .inl rfl | exact .inr rfl
theorem tri_nxt (p : P3) (u v w : Int) : tri p u v w = tri (nxt p) v w u := by cases p <;> rfl
theorem ring_tri (p : P3) (u v w : Int) : ring (tri p u v w) ↔ (0 < u ∧ 0 < v ∧ 0 < w) ∨ (u < 0 ∧ v < 0 ∧ w < 0) := by
  cases p <;> simp only [tri, ring] <;> omega
theorem beyond_tri (G : Int) (p : P3) (u v w : Int) : Beyond G p (tri p u v w) ↔ G < nat w ∧ ((0 < u ∧ 0 < v ∧ 0 < w) ∨ (u < 0 ∧ v < 0 ∧ w < 0)) ∧ 2 ≤ nat u ∧ 2 ≤ nat v ∧ nat u * nat v < 2 * nat w := by
  unfold Beyond
  rw [ring_tri]
  cases p <;> rfl
theorem beyond_next {G : Int} {p : P3} {u v w : Int} (h : Beyond G p (tri p u v w)) : Beyond G (nxt p) (turn (nxt p) (tri p u v w)) := by
  rw [tri_nxt, turn_tri, beyond_tri]
  obtain ⟨h1, h2, h3, h4, h5⟩ := (beyond_tri G p u v w).mp h
  rcases h2 with ⟨a1, a2, a3⟩ | ⟨a1, a2, a3⟩
  · rw [nat_pos a1, nat_pos a2] at h5
    rw [nat_pos a1] at h3
    rw [nat_pos a2] at h4
    rw [nat_pos a3] at h1 h5
    obtain ⟨g1, g2, g3⟩ := grow h1 h3 h4 h5
    rw [push_pos a2 a3, nat_neg' (show u - v * w < 0 by omega), nat_neg' (show -v < 0 by omega), nat_neg' (show -w < 0 by omega), Int.neg_neg, Int.neg_neg]
    refine ⟨by omega, .inr ⟨by omega, by omega, by omega⟩, h4, ?_, by omega⟩
    have : 2 * 2 ≤ u * v := Int.mul_le_mul h3 h4 (by omega) (by omega)
    omega
  · rw [nat_neg' a1, nat_neg' a2] at h5
    rw [nat_neg' a1] at h3
    rw [nat_neg' a2] at h4
    rw [nat_neg' a3] at h1 h5
    obtain ⟨g1, g2, g3⟩ := grow h1 h3 h4 h5
    rw [Int.neg_mul_neg] at g1 g2 g3
    rw [push_neg a2 a3, nat_pos (show 0 < u + v * w by omega), nat_pos (show 0 < -v by omega), nat_pos (show 0 < -w by omega)]
    refine ⟨by omega, .inl ⟨by omega, by omega, by omega⟩, h4, ?_, ?_⟩
    · have : 2 * 2 ≤ -u * -v := Int.mul_le_mul h3 h4 (by omega) (by omega)
      omega
    · rw [Int.neg_mul_neg]
      omega
theorem beyond_prev {G : Int} {p : P3} {u v w : Int} (h : Beyond G (nxt p) (tri (nxt p) u v w)) : Beyond G p (turn p (tri (nxt p) u v w)) := by
  have e : tri (nxt p) u v w = tri p w u v := by cases p <;> rfl
  rw [e, turn_tri, beyond_tri]
  obtain ⟨h1, h2, h3, h4, h5⟩ := (beyond_tri G (nxt p) u v w).mp h
  rw [Int.mul_comm (nat u)] at h5
  rcases h2 with ⟨a1, a2, a3⟩ | ⟨a1, a2, a3⟩
  · rw [nat_pos a1, nat_pos a2] at h5
    rw [nat_pos a1] at h3
    rw [nat_pos a2] at h4
    rw [nat_pos a3] at h1 h5
    obtain ⟨g1, g2, g3⟩ := grow h1 h4 h3 h5
    rw [Int.mul_comm] at g1 g2 g3
    rw [push_pos a3 a1, nat_neg' (show v - w * u < 0 by omega), nat_neg' (show -u < 0 by omega), nat_neg' (show -w < 0 by omega), Int.neg_neg, Int.neg_neg]
    refine ⟨by omega, .inr ⟨by omega, by omega, by omega⟩, ?_, h3, by omega⟩
    have : 2 * 2 ≤ v * u := Int.mul_le_mul h4 h3 (by omega) (by omega)
    omega
  · rw [nat_neg' a1, nat_neg' a2] at h5
    rw [nat_neg' a1] at h3
    rw [nat_neg' a2] at h4
    rw [nat_neg' a3] at h1 h5
    obtain ⟨g1, g2, g3⟩ := grow h1 h4 h3 h5
    rw [Int.neg_mul_neg, Int.mul_comm] at g1 g2 g3
    rw [push_neg a3 a1, nat_pos (show 0 < v + w * u by omega), nat_pos (show 0 < -u by omega), nat_pos (show 0 < -w by omega)]
    refine ⟨by omega, .inl ⟨by omega, by omega, by omega⟩, ?_, h3, ?_⟩
    · have : 2 * 2 ≤ -v * -u := Int.mul_le_mul h4 h3 (by omega) (by omega)
      omega
    · rw [Int.neg_mul_neg]
      omega
theorem beyond_turn {G : Int} {p q : P3} {t : T3} (h : Beyond G p t) (n : p ≠ q) : Beyond G q (turn q t) := by
  rcases other n with e | e
  · subst e
    rw [tri_of p t] at h ⊢
    exact beyond_next h
  · subst e
    rw [tri_of (nxt q) t] at h ⊢
    exact beyond_prev h
theorem beyond_walk {G : Int} : ∀ {u : List P3} {p : P3} {t : T3}, Beyond G p t → red (p :: u) → ∃ q, Beyond G q (walk t u)
  | [], p, _, h, _ => ⟨p, h⟩
  | q :: u, p, t, h, r => beyond_walk (u := u) (p := q) (t := turn q t) (beyond_turn h r.1) r.2
/-- the greatest size -/
def big : T3 → Int
  | (x, y, z) => if nat x ≤ nat y then (if nat y ≤ nat z then nat z else nat y) else (if nat x ≤ nat z then nat z else nat x)
theorem big_le {t : T3} {G : Int} : big t ≤ G ↔ nat t.1 ≤ G ∧ nat t.2.1 ≤ G ∧ nat t.2.2 ≤ G := by
  obtain ⟨x, y, z⟩ := t
  simp only [big]
  split <;> split <;> omega
theorem beyond_big {G : Int} {p : P3} {t : T3} (h : Beyond G p t) : G < big t := by
  obtain ⟨x, y, z⟩ := t
  have h1 := h.1
  cases p <;> simp only [opp] at h1 <;> simp only [big] <;> split <;> split <;> omega
end At

namespace At
/-! ### even steps: turns at two places in turn, two arrows between them -/
theorem opp_other {p q : P3} (h : p ≠ q) (t : T3) : opp q (turn p t) = -opp q t := by
  obtain ⟨x, y, z⟩ := t
  cases p <;> cases q <;> first | exact absurd rfl h | rfl
theorem push_comm (u v w : Int) : push u v w = push v u w := by
  unfold push
  rw [Int.mul_comm u v]
  by_cases h1 : 0 < u ∧ 0 < v
  · rw [if_pos h1, if_pos ⟨h1.2, h1.1⟩]
  · rw [if_neg h1, if_neg (show ¬ (0 < v ∧ 0 < u) from fun h => h1 ⟨h.2, h.1⟩)]
    by_cases h2 : u < 0 ∧ v < 0
    · rw [if_pos h2, if_pos ⟨h2.2, h2.1⟩]
    · rw [if_neg h2, if_neg (show ¬ (v < 0 ∧ u < 0) from fun h => h2 ⟨h.2, h.1⟩)]
theorem opp_same {p q r : P3} (h1 : p ≠ q) (h2 : q ≠ r) (h3 : p ≠ r) (t : T3) : opp p (turn p t) = push (opp q t) (opp r t) (opp p t) := by
  obtain ⟨x, y, z⟩ := t
  cases p <;> cases q <;> cases r <;> first | exact absurd rfl h1 | exact absurd rfl h2 | exact absurd rfl h3 | rfl | exact push_comm _ _ _
theorem opp_ext {p q r : P3} (h1 : p ≠ q) (h2 : q ≠ r) (h3 : p ≠ r) {t s : T3} (a : opp p t = opp p s) (b : opp q t = opp q s) (c : opp r t = opp r s) : t = s := by
  obtain ⟨x, y, z⟩ := t
  obtain ⟨x', y', z'⟩ := s
  cases p <;> cases q <;> cases r <;> first | exact absurd rfl h1 | exact absurd rfl h2 | exact absurd rfl h3 | (simp only [opp] at a b c; rw [a, b, c])
theorem even_one {p q r : P3} (h1 : p ≠ q) (h2 : q ≠ r) (h3 : p ≠ r) {t : T3} {s A B : Int} (hs : s = 1 ∨ s = -1) (tr : opp r t = 2 * s) (tp : opp p t = s * A) (tq : opp q t = s * B) (hB : 0 < B) (hC : 0 < 2 * B - A) :
    opp r (walk t [p, q]) = 2 * s ∧ opp p (walk t [p, q]) = s * (2 * B - A) ∧ opp q (walk t [p, q]) = s * (3 * B - 2 * A) := by
  have a1 : opp p (turn p t) = -(s * (2 * B - A)) := by
    rw [opp_same h1 h2 h3, tr, tp, tq]
    rcases hs with rfl | rfl
    · rw [push_pos (by omega) (by omega)]; omega
    · rw [push_neg (by omega) (by omega)]; omega
  have a2 : opp q (turn p t) = -(s * B) := by rw [opp_other h1, tq]
  have a3 : opp r (turn p t) = -(2 * s) := by rw [opp_other h3, tr]
  refine ⟨?_, ?_, ?_⟩
  · show opp r (turn q (turn p t)) = _
    rw [opp_other h2, a3, Int.neg_neg]
  · show opp p (turn q (turn p t)) = _
    rw [opp_other (fun z => h1 z.symm), a1, Int.neg_neg]
  · show opp q (turn q (turn p t)) = _
    rw [opp_same (fun z => h1 z.symm) h3 h2, a1, a2, a3]
    rcases hs with rfl | rfl
    · rw [push_neg (by omega) (by omega)]; omega
    · rw [push_pos (by omega) (by omega)]; omega
theorem even_many {p q r : P3} (h1 : p ≠ q) (h2 : q ≠ r) (h3 : p ≠ r) {s : Int} (hs : s = 1 ∨ s = -1) : ∀ (n : Nat) (t : T3) (A B : Int), opp r t = 2 * s → opp p t = s * A → opp q t = s * B →
    (∀ k : Nat, k < n → 0 < B + 2 * (k : Int) * (B - A) ∧ 0 < B + (2 * (k : Int) + 1) * (B - A)) →
    opp r (many n [p, q] t) = 2 * s ∧ opp p (many n [p, q] t) = s * (A + 2 * (n : Int) * (B - A)) ∧ opp q (many n [p, q] t) = s * (B + 2 * (n : Int) * (B - A))
  | 0, t, A, B, tr, tp, tq, _ => by
    refine ⟨tr, ?_, ?_⟩
    · show opp p t = _
      rw [tp]; simp
    · show opp q t = _
      rw [tq]; simp
  | n + 1, t, A, B, tr, tp, tq, h => by
    have h0 := h 0 (Nat.succ_pos n)
    have hB : 0 < B := by have := h0.1; simpa using this
    have hC : 0 < 2 * B - A := by have := h0.2; simp at this; omega
    obtain ⟨e1, e2, e3⟩ := even_one h1 h2 h3 hs tr tp tq hB hC
    have ed : (3 * B - 2 * A) - (2 * B - A) = B - A := by omega
    have ih := even_many h1 h2 h3 hs n (walk t [p, q]) (2 * B - A) (3 * B - 2 * A) e1 e2 e3 (fun k hk => by
      have := h (k + 1) (Nat.succ_lt_succ hk)
      rw [ed]
      have c1 : ((k + 1 : Nat) : Int) = (k : Int) + 1 := rfl
      rw [c1] at this
      have x1 : 2 * ((k : Int) + 1) * (B - A) = 2 * (k : Int) * (B - A) + 2 * (B - A) := by rw [Int.mul_add, Int.add_mul]; rfl
      have x2 : (2 * ((k : Int) + 1) + 1) * (B - A) = (2 * (k : Int) + 1) * (B - A) + 2 * (B - A) := by
        rw [show 2 * ((k : Int) + 1) + 1 = (2 * (k : Int) + 1) + 2 by omega, Int.add_mul]
      rw [x1, x2] at this
      omega)
    rw [ed] at ih
    have c1 : ((n + 1 : Nat) : Int) = (n : Int) + 1 := rfl
    have x1 : 2 * ((n : Int) + 1) * (B - A) = 2 * (n : Int) * (B - A) + 2 * (B - A) := by rw [Int.mul_add, Int.add_mul]; rfl
    refine ⟨ih.1, ?_, ?_⟩
    · show opp p (many n [p, q] (walk t [p, q])) = _
      rw [ih.2.1, c1, x1]
      congr 1
      omega
    · show opp q (many n [p, q] (walk t [p, q])) = _
      rw [ih.2.2, c1, x1]
      congr 1
      omega
/-- so many times [p, q] go evenly from t -/
def EvenOk (t : T3) (ps : List P3) (n : Nat) : Prop := ∃ p q r s A B, ps = [p, q] ∧ p ≠ q ∧ q ≠ r ∧ p ≠ r ∧ (s = 1 ∨ s = -1) ∧ opp r t = 2 * s ∧ opp p t = s * A ∧ opp q t = s * B ∧
  ∀ k : Nat, k < n → 0 < B + 2 * (k : Int) * (B - A) ∧ 0 < B + (2 * (k : Int) + 1) * (B - A)
/-- what behind_even reckons -/
theorem even_end {t : T3} {ps : List P3} {n : Nat} (h : EvenOk t ps n) : ∃ p q r, ps = [p, q] ∧ p ≠ q ∧ q ≠ r ∧ p ≠ r ∧ opp p (many n ps t) = opp p t + 2 * (n : Int) * (opp q t - opp p t) ∧ opp q (many n ps t) = opp q t + 2 * (n : Int) * (opp q t - opp p t) ∧ opp r (many n ps t) = opp r t := by
  obtain ⟨p, q, r, s, A, B, rfl, h1, h2, h3, hs, tr, tp, tq, hk⟩ := h
  obtain ⟨e1, e2, e3⟩ := even_many h1 h2 h3 hs n t A B tr tp tq hk
  refine ⟨p, q, r, rfl, h1, h2, h3, ?_, ?_, by rw [e1, tr]⟩
  · rw [e2, tp, tq]
    rcases hs with rfl | rfl
    · simp only [Int.one_mul]
    · simp only [Int.neg_mul, Int.one_mul]
      rw [show -B - -A = -(B - A) by omega, Int.mul_neg]
      omega
  · rw [e3, tp, tq]
    rcases hs with rfl | rfl
    · simp only [Int.one_mul]
    · simp only [Int.neg_mul, Int.one_mul]
      rw [show -B - -A = -(B - A) by omega, Int.mul_neg]
      omega
/-- what even_repeats reckons -/
theorem even_ok {p q r : P3} (h1 : p ≠ q) (h2 : q ≠ r) (h3 : p ≠ r) {t : T3} (hr : ring t) (htie : nat (opp r t) = 2) {j : Int} (hj : 0 < j)
    (hc : 0 ≤ nat (opp q t) - nat (opp p t) ∨ j ≤ (nat (opp q t) - 1) / -(nat (opp q t) - nat (opp p t)) / 2) : EvenOk t [p, q] j.toNat := by
  obtain ⟨s, hs, e⟩ : ∃ s : Int, (s = 1 ∨ s = -1) ∧ ∀ x : P3, opp x t = s * nat (opp x t) ∧ 0 < nat (opp x t) := by
    obtain ⟨x, y, z⟩ := t
    rcases hr with ⟨a1, a2, a3⟩ | ⟨a1, a2, a3⟩
    · refine ⟨1, .inl rfl, fun w => ?_⟩
      cases w <;> simp only [opp] <;> rw [nat_pos (by assumption)] <;> omega
    · refine ⟨-1, .inr rfl, fun w => ?_⟩
      cases w <;> simp only [opp] <;> rw [nat_neg' (by assumption)] <;> omega
  refine ⟨p, q, r, s, nat (opp p t), nat (opp q t), rfl, h1, h2, h3, hs, ?_, (e p).1, (e q).1, fun k hk => ?_⟩
  · rw [(e r).1, htie, Int.mul_comm]
  · have hB := (e q).2
    generalize nat (opp q t) = B at hc hB ⊢
    generalize nat (opp p t) = A at hc ⊢
    have hk' : (k : Int) < j := by omega
    rcases hc with hd | hd
    · have g1 : 0 ≤ 2 * (k : Int) * (B - A) := Int.mul_nonneg (by omega) hd
      have g2 : 0 ≤ (2 * (k : Int) + 1) * (B - A) := Int.mul_nonneg (by omega) hd
      omega
    · by_cases hd0 : 0 ≤ B - A
      · have g1 : 0 ≤ 2 * (k : Int) * (B - A) := Int.mul_nonneg (by omega) hd0
        have g2 : 0 ≤ (2 * (k : Int) + 1) * (B - A) := Int.mul_nonneg (by omega) hd0
        omega
      · have f1 : j * 2 ≤ (B - 1) / -(B - A) := (Int.le_ediv_iff_mul_le (by omega)).mp hd
        have f2 : j * 2 * -(B - A) ≤ B - 1 := (Int.le_ediv_iff_mul_le (by omega)).mp f1
        have f3 : (2 * (k : Int) + 1) * -(B - A) ≤ j * 2 * -(B - A) := Int.mul_le_mul_of_nonneg_right (by omega) (by omega)
        have f4 : 2 * (k : Int) * -(B - A) ≤ j * 2 * -(B - A) := Int.mul_le_mul_of_nonneg_right (by omega) (by omega)
        rw [Int.mul_neg] at f2 f3 f4
        rw [Int.mul_neg] at f3 f4
        omega
/-! ### a repeated word that is cyclically without doubles -/
def cyc (c : List P3) : Prop := red c ∧ ∀ p q, c.getLast? = some p → c.head? = some q → p ≠ q
theorem rep_head (c : List P3) (n : Nat) (h : 0 < n) : (rep n c).head? = c.head? := by
  cases n with
  | zero => omega
  | succ n =>
    rw [rep_succ]
    cases c with
    | nil =>
      induction n with
      | zero => rfl
      | succ n ih => rw [rep_succ, List.nil_append]; exact ih (Nat.succ_pos n)
    | cons x r => rfl
theorem rep_succ' (n : Nat) (ps : List P3) : rep (n + 1) ps = rep n ps ++ ps := by
  induction n with
  | zero => rw [rep_succ, rep_zero, List.append_nil, List.nil_append]
  | succ n ih => rw [rep_succ, ih, ← List.append_assoc, ← rep_succ, ih]
theorem last_app {u v : List P3} (h : v ≠ []) : (u ++ v).getLast? = v.getLast? := by
  rw [List.getLast?_append]
  cases e : v.getLast? with
  | none => exact absurd (List.getLast?_eq_none_iff.mp e) h
  | some x => rfl
theorem rep_last (c : List P3) (n : Nat) (h : 0 < n) (hc : c ≠ []) : (rep n c).getLast? = c.getLast? := by
  cases n with
  | zero => omega
  | succ n => rw [rep_succ', last_app hc]
theorem cyc_rep {c : List P3} (h : cyc c) : ∀ n : Nat, red (rep n c)
  | 0 => trivial
  | n + 1 => by
    rw [rep_succ]
    refine red_append.mpr ⟨h.1, cyc_rep h n, fun p q hp hq => ?_⟩
    cases n with
    | zero => rw [rep_zero] at hq; simp at hq
    | succ n => rw [rep_head c (n + 1) (Nat.succ_pos n)] at hq; exact h.2 p q hp hq
theorem cyc_root {r : List P3} {k : Nat} (hk : 0 < k) (hr : r ≠ []) (h : cyc (rep k r)) : cyc r := by
  refine ⟨?_, fun p q hp hq => ?_⟩
  · have h1 := h.1
    cases k with
    | zero => omega
    | succ k => rw [rep_succ] at h1; exact (red_append.mp h1).1
  · exact h.2 p q (by rw [rep_last r k hk hr]; exact hp) (by rw [rep_head r k hk]; exact hq)
/-- the whole way: there, so often the core, and back -/
theorem whole_red {w c : List P3} (h : red (w ++ c ++ w.reverse)) (hc : cyc c) (hn : c ≠ []) (n : Nat) (h0 : 0 < n) : red (w ++ rep n c ++ w.reverse) := by
  obtain ⟨h1, h2, h3⟩ := red_append.mp h
  obtain ⟨h4, h5, h6⟩ := red_append.mp h1
  have lc : (w ++ rep n c).getLast? = (w ++ c).getLast? := by
    have e1 : rep n c ≠ [] := fun z => by
      have := rep_last c n h0 hn
      rw [z] at this
      have hne := (List.getLast?_eq_none_iff (xs := c)).mp this.symm
      exact hn hne
    rw [last_app e1, last_app hn, rep_last c n h0 hn]
  refine red_append.mpr ⟨red_append.mpr ⟨h4, cyc_rep hc n, fun p q hp hq => ?_⟩, h2, fun p q hp hq => ?_⟩
  · rw [rep_head c n h0] at hq
    exact h6 p q hp hq
  · rw [lc] at hp
    exact h3 p q hp hq
/-- beyond somewhere on a way without doubles: beyond at its end -/
theorem beyond_end {G : Int} {t : T3} {pre post : List P3} {p : P3} (h : Beyond G p (walk t (pre ++ [p]))) (r : red (pre ++ p :: post)) : G < big (walk t (pre ++ p :: post)) := by
  have e : pre ++ p :: post = (pre ++ [p]) ++ post := by rw [List.append_assoc]; rfl
  obtain ⟨q, hq⟩ := beyond_walk h (red_append.mp r).2.1
  rw [e, walk_append]
  exact beyond_big hq
/-- what behind_way tells -/
def WayEnd (G : Int) (t : T3) (ps : List P3) : Option T3 → Prop
  | some s => s = walk t ps
  | none => ∃ pre p post, ps = pre ++ p :: post ∧ Beyond G p (walk t (pre ++ [p]))
end At

namespace At
/-! ### the mark stays; sizes stay within a bound -/
theorem nat_nonneg (i : Int) : 0 ≤ nat i := by unfold nat; split <;> omega
theorem nat_nat (i : Int) : nat (nat i) = nat i := by
  have := nat_nonneg i
  rw [show nat (nat i) = if nat i < 0 then -nat i else nat i from rfl, if_neg (by omega)]
theorem nat_neg (i : Int) : nat (-i) = nat i := by unfold nat; split <;> split <;> omega
instance (t : T3) : Decidable (ring t) := by
  obtain ⟨x, y, z⟩ := t
  unfold ring
  exact inferInstance
def mk (t : T3) : Int := if ring t then t.1 * t.1 + t.2.1 * t.2.1 + t.2.2 * t.2.2 - nat t.1 * nat t.2.1 * nat t.2.2 else t.1 * t.1 + t.2.1 * t.2.1 + t.2.2 * t.2.2 + nat t.1 * nat t.2.1 * nat t.2.2
theorem mk_tri (p : P3) (u v w : Int) : mk (tri p u v w) = if (0 < u ∧ 0 < v ∧ 0 < w) ∨ (u < 0 ∧ v < 0 ∧ w < 0) then u * u + v * v + w * w - nat u * nat v * nat w else u * u + v * v + w * w + nat u * nat v * nat w := by
  have e := ring_tri p u v w
  unfold mk
  by_cases h : (0 < u ∧ 0 < v ∧ 0 < w) ∨ (u < 0 ∧ v < 0 ∧ w < 0)
  · rw [if_pos (e.mpr h), if_pos h]
    cases p
    · show v * v + w * w + u * u - nat v * nat w * nat u = _
      rw [show nat v * nat w * nat u = nat u * nat v * nat w by rw [Int.mul_comm (nat v * nat w), ← Int.mul_assoc]]
      omega
    · rfl
    · show w * w + u * u + v * v - nat w * nat u * nat v = _
      rw [show nat w * nat u * nat v = nat u * nat v * nat w by rw [Int.mul_assoc, Int.mul_comm (nat w)]]
      omega
  · rw [if_neg (fun z => h (e.mp z)), if_neg h]
    cases p
    · show v * v + w * w + u * u + nat v * nat w * nat u = _
      rw [show nat v * nat w * nat u = nat u * nat v * nat w by rw [Int.mul_comm (nat v * nat w), ← Int.mul_assoc]]
      omega
    · rfl
    · show w * w + u * u + v * v + nat w * nat u * nat v = _
      rw [show nat w * nat u * nat v = nat u * nat v * nat w by rw [Int.mul_assoc, Int.mul_comm (nat w)]]
      omega
theorem mk_pos (p : P3) {u v : Int} (w : Int) (hu : 0 < u) (hv : 0 < v) : mk (tri p u v w) = u * u + v * v + w * w - u * v * w := by
  rw [mk_tri, nat_pos hu, nat_pos hv]
  by_cases h : 0 < w
  · rw [if_pos (.inl ⟨hu, hv, h⟩), nat_pos h]
  · rw [if_neg (by omega)]
    have e : nat w = -w := by unfold nat; split <;> omega
    rw [e, Int.mul_neg]
    omega
theorem mk_neg (p : P3) {u v : Int} (w : Int) (hu : u < 0) (hv : v < 0) : mk (tri p u v w) = u * u + v * v + w * w + u * v * w := by
  rw [mk_tri, nat_neg' hu, nat_neg' hv]
  rw [Int.neg_mul_neg]
  by_cases h : w < 0
  · rw [if_pos (.inr ⟨hu, hv, h⟩), nat_neg' h, Int.mul_neg]
    omega
  · rw [if_neg (by omega)]
    have e : nat w = w := by unfold nat; split <;> omega
    rw [e]
theorem mk_other (p : P3) {u v : Int} (w : Int) (h1 : ¬ (0 < u ∧ 0 < v)) (h2 : ¬ (u < 0 ∧ v < 0)) : mk (tri p u v w) = u * u + v * v + w * w + nat u * nat v * nat w := by
  rw [mk_tri, if_neg (by omega)]
theorem mk_turn (p : P3) (t : T3) : mk (turn p t) = mk t := by
  rw [tri_of p t]
  generalize co p t = u
  generalize go p t = v
  generalize opp p t = w
  rw [turn_tri]
  by_cases h1 : 0 < u ∧ 0 < v
  · rw [push_pos h1.1 h1.2, mk_pos p w h1.1 h1.2, mk_neg p _ (show -u < 0 by omega) (show -v < 0 by omega), Int.neg_mul_neg, Int.neg_mul_neg, Int.neg_mul_neg]
    have e : (w - u * v) * (w - u * v) + u * v * (w - u * v) = w * w - u * v * w := by
      have : (w - u * v) * (w - u * v) + u * v * (w - u * v) = ((w - u * v) + u * v) * (w - u * v) := by rw [Int.add_mul]
      rw [this, Int.sub_add_cancel, Int.mul_sub, Int.mul_comm w (u * v)]
    omega
  · by_cases h2 : u < 0 ∧ v < 0
    · rw [push_neg h2.1 h2.2, mk_neg p w h2.1 h2.2, mk_pos p _ (show 0 < -u by omega) (show 0 < -v by omega), Int.neg_mul_neg, Int.neg_mul_neg, Int.neg_mul_neg]
      have e : (w + u * v) * (w + u * v) - u * v * (w + u * v) = w * w + u * v * w := by
        have : (w + u * v) * (w + u * v) - u * v * (w + u * v) = ((w + u * v) - u * v) * (w + u * v) := by rw [Int.sub_mul]
        rw [this, Int.add_sub_cancel, Int.mul_add, Int.mul_comm w (u * v)]
      omega
    · have e : push u v w = w := by unfold push; rw [if_neg h1, if_neg h2]
      rw [e, mk_other p w h1 h2, mk_other p w (by omega) (by omega), Int.neg_mul_neg, Int.neg_mul_neg, nat_neg, nat_neg]
theorem mk_walk : ∀ (ps : List P3) (t : T3), mk (walk t ps) = mk t
  | [], _ => rfl
  | p :: ps, t => by rw [walk_cons, mk_walk ps, mk_turn]
theorem sq_le {a b : Int} (ha : 0 ≤ a) (hb : 0 ≤ b) (h : a * a ≤ b * b) : a ≤ b := by
  by_cases z : a ≤ b
  · exact z
  · have h1 : b + 1 ≤ a := by omega
    have h2 : (b + 1) * (b + 1) ≤ a * a := Int.mul_le_mul h1 h1 (by omega) ha
    have h3 : (b + 1) * (b + 1) = b * b + 2 * b + 1 := by rw [Int.add_mul, Int.mul_add]; omega
    omega
theorem nat_sq (i : Int) : nat i * nat i = i * i := by unfold nat; split <;> simp [Int.neg_mul_neg]
theorem sq_nonneg (i : Int) : 0 ≤ i * i := by rw [← nat_sq]; exact Int.mul_nonneg (nat_nonneg i) (nat_nonneg i)
/-- in a ring with a size 1, three quarters of the square are at most the mark -/
theorem one_ring {v w : Int} : 3 * (w * w) ≤ 4 * (1 * 1 + v * v + w * w - 1 * v * w) := by
  have h := sq_nonneg (2 * v - w)
  have e : (2 * v - w) * (2 * v - w) = 4 * (v * v) - 4 * (v * w) + w * w := by
    rw [Int.sub_mul, Int.mul_sub, Int.mul_sub]
    have e1 : 2 * v * (2 * v) = 4 * (v * v) := by grind
    have e2 : 2 * v * w = 2 * (v * w) := Int.mul_assoc ..
    have e3 : w * (2 * v) = 2 * (v * w) := by rw [Int.mul_comm, e2]
    omega
  rw [Int.one_mul, Int.one_mul]
  omega
theorem big_tri {p : P3} {u v w B : Int} : big (tri p u v w) ≤ B ↔ nat u ≤ B ∧ nat v ≤ B ∧ nat w ≤ B := by
  cases p <;> rw [big_le] <;> simp only [tri] <;> omega
theorem big_at {p : P3} {t : T3} {B : Int} (h : big t ≤ B) : nat (co p t) ≤ B ∧ nat (go p t) ≤ B ∧ nat (opp p t) ≤ B := big_tri.mp (by rw [← tri_of p t]; exact h)
theorem nat_mul (a b : Int) : nat (a * b) = nat a * nat b := by
  have h1 : ∀ x : Int, nat x = (x.natAbs : Int) := fun x => by unfold nat; split <;> omega
  rw [h1, h1, h1, Int.natAbs_mul]
  exact Int.natCast_mul ..
theorem nat_add_le (a b : Int) : nat (a + b) ≤ nat a + nat b := by unfold nat; split <;> split <;> split <;> omega
theorem push_le (u v w : Int) : nat (push u v w) ≤ nat w + nat u * nat v := by
  unfold push
  have h0 : 0 ≤ nat u * nat v := Int.mul_nonneg (nat_nonneg u) (nat_nonneg v)
  split
  · have := nat_add_le w (-(u * v))
    rw [nat_neg, nat_mul] at this
    rw [Int.sub_eq_add_neg]
    exact this
  · split
    · have := nat_add_le w (u * v)
      rw [nat_mul] at this
      exact this
    · omega
theorem turn_big {p : P3} {t : T3} {B : Int} (h : big t ≤ B) : big (turn p t) ≤ B * B + B := by
  obtain ⟨b1, b2, b3⟩ := big_at (p := p) h
  have hB : 0 ≤ B := Int.le_trans (nat_nonneg _) b1
  rw [tri_of p t, turn_tri, big_tri, nat_neg, nat_neg]
  have h1 := push_le (co p t) (go p t) (opp p t)
  have h2 : nat (co p t) * nat (go p t) ≤ B * B := Int.mul_le_mul b1 b2 (nat_nonneg _) hB
  have h3 : 0 ≤ B * B := Int.mul_nonneg hB hB
  refine ⟨by omega, by omega, by omega⟩
/-- THE BOUND: a turn that does not lead beyond keeps the sizes within B -/
theorem bound_turn {G B : Int} {p : P3} {t : T3} (hG : G ≤ B) (hB : 0 ≤ B) (hm : 4 * mk t ≤ 3 * (B * B)) (hb : big t ≤ B) (hn : ¬ Beyond G p (turn p t)) : big (turn p t) ≤ B := by
  rw [← mk_turn p t] at hm
  rw [tri_of p t] at hm hb hn ⊢
  generalize co p t = u at hm hb hn ⊢
  generalize go p t = v at hm hb hn ⊢
  generalize opp p t = w at hm hb hn ⊢
  obtain ⟨b1, b2, b3⟩ := big_tri.mp hb
  rw [turn_tri] at hm hn ⊢
  rw [big_tri, nat_neg, nat_neg]
  refine ⟨b1, b2, ?_⟩
  generalize hw : push u v w = w' at hm hn ⊢
  rw [beyond_tri] at hn
  by_cases hr : (0 < -u ∧ 0 < -v ∧ 0 < w') ∨ (-u < 0 ∧ -v < 0 ∧ w' < 0)
  · -- a ring
    by_cases c1 : G < nat w'
    · by_cases c2 : 2 ≤ nat (-u) ∧ 2 ≤ nat (-v)
      · have c3 : 2 * nat w' ≤ nat (-u) * nat (-v) := by
          by_cases z : nat (-u) * nat (-v) < 2 * nat w'
          · exact absurd ⟨c1, hr, c2.1, c2.2, z⟩ hn
          · omega
        rw [nat_neg, nat_neg] at c3
        rcases hr with ⟨r1, r2, r3⟩ | ⟨r1, r2, r3⟩
        · have e := push_neg (w := w) (show u < 0 by omega) (show v < 0 by omega)
          rw [hw] at e
          rw [nat_neg' (show u < 0 by omega), nat_neg' (show v < 0 by omega), Int.neg_mul_neg] at c3
          rw [nat_pos r3] at c3 ⊢
          have : nat w = -w := nat_neg' (by omega)
          omega
        · have e := push_pos (w := w) (show 0 < u by omega) (show 0 < v by omega)
          rw [hw] at e
          rw [nat_pos (show 0 < u by omega), nat_pos (show 0 < v by omega)] at c3
          rw [nat_neg' r3] at c3 ⊢
          have : nat w = w := nat_pos (by omega)
          omega
      · -- a size 1
        have key : ∀ x y : Int, nat x = 1 → (0 < -u ∧ 0 < -v ∧ 0 < w') ∨ (-u < 0 ∧ -v < 0 ∧ w' < 0) → (x = u ∧ y = v ∨ x = v ∧ y = u) → nat w' ≤ B := by
          intro x y hx _ hxy
          have hmk : mk (tri p (-u) (-v) w') = 1 * 1 + nat y * nat y + nat w' * nat w' - 1 * nat y * nat w' := by
            rw [mk_tri, if_pos hr, nat_neg, nat_neg, ← nat_sq (-u), ← nat_sq (-v), ← nat_sq w', nat_neg, nat_neg]
            rcases hxy with ⟨rfl, rfl⟩ | ⟨rfl, rfl⟩
            · rw [hx]
            · rw [hx, Int.mul_comm (nat y) 1]
              omega
          rw [hmk] at hm
          have h3 := one_ring (v := nat y) (w := nat w')
          exact sq_le (nat_nonneg _) hB (by omega)
        have u1 : 1 ≤ nat u := by rw [← nat_neg]; unfold nat; split <;> omega
        have v1 : 1 ≤ nat v := by rw [← nat_neg]; unfold nat; split <;> omega
        rw [nat_neg, nat_neg] at c2
        by_cases z : nat u = 1
        · exact key u v z hr (.inl ⟨rfl, rfl⟩)
        · exact key v u (by omega) hr (.inr ⟨rfl, rfl⟩)
    · omega
  · -- free
    rw [mk_tri, if_neg hr, Int.neg_mul_neg, Int.neg_mul_neg] at hm
    have h1 := sq_nonneg u
    have h2 := sq_nonneg v
    have h3 : 0 ≤ nat (-u) * nat (-v) * nat w' := Int.mul_nonneg (Int.mul_nonneg (nat_nonneg _) (nat_nonneg _)) (nat_nonneg _)
    refine sq_le (nat_nonneg _) hB ?_
    rw [nat_sq]
    have h4 : 0 ≤ B * B := Int.mul_nonneg hB hB
    omega
end At

namespace At
theorem big_opp {p q r : P3} (h1 : p ≠ q) (h2 : q ≠ r) (h3 : p ≠ r) {t : T3} {B : Int} : big t ≤ B ↔ nat (opp p t) ≤ B ∧ nat (opp q t) ≤ B ∧ nat (opp r t) ≤ B := by
  rw [big_le]
  obtain ⟨x, y, z⟩ := t
  cases p <;> cases q <;> cases r <;> first | exact absurd rfl h1 | exact absurd rfl h2 | exact absurd rfl h3 | (simp only [opp]; done) | (simp only [opp]; constructor <;> (rintro ⟨a, b, c⟩; exact ⟨by assumption, by assumption, by assumption⟩))
theorem ring_opp {t : T3} (h : ring t) : (∀ p, 0 < opp p t) ∨ (∀ p, opp p t < 0) := by
  obtain ⟨x, y, z⟩ := t
  rcases h with ⟨a, b, c⟩ | ⟨a, b, c⟩
  · exact .inl fun p => by cases p <;> assumption
  · exact .inr fun p => by cases p <;> assumption
theorem even_big {t : T3} {ps : List P3} {n : Nat} {B : Int} (h : EvenOk t ps n) (hb : big t ≤ B) : big (many n ps t) ≤ B + 2 * (n : Int) * (2 * B) := by
  obtain ⟨p, q, r, rfl, h1, h2, h3, e1, e2, e3⟩ := even_end h
  obtain ⟨b1, b2, b3⟩ := (big_opp h1 h2 h3).mp hb
  have hB : 0 ≤ B := Int.le_trans (nat_nonneg _) b1
  have e6 := nat_add_le (opp q t) (-opp p t)
  rw [nat_neg, ← Int.sub_eq_add_neg] at e6
  have hn : nat (2 * (n : Int)) = 2 * (n : Int) := by unfold nat; rw [if_neg (by omega)]
  have hc : nat (2 * (n : Int) * (opp q t - opp p t)) ≤ 2 * (n : Int) * (2 * B) := by
    rw [nat_mul, hn]
    exact Int.mul_le_mul_of_nonneg_left (by omega) (by omega)
  have h0 : 0 ≤ 2 * (n : Int) * (2 * B) := Int.mul_nonneg (by omega) (by omega)
  refine (big_opp h1 h2 h3).mpr ⟨?_, ?_, ?_⟩
  · rw [e1]
    have := nat_add_le (opp p t) (2 * (n : Int) * (opp q t - opp p t))
    omega
  · rw [e2]
    have := nat_add_le (opp q t) (2 * (n : Int) * (opp q t - opp p t))
    omega
  · rw [e3]
    omega
theorem even_small {p q : P3} {t : T3} {n : Nat} {B : Int} (hr : ring t) (h : EvenOk t [p, q] n) (hn : 0 < n) (hd : nat (opp q t) - nat (opp p t) < 0) (hb : big t ≤ B) : big (many n [p, q] t) ≤ B := by
  obtain ⟨p', q', r, s, a, b, e, h1, h2, h3, hs, tr, tp, tq, hk⟩ := h
  simp only [List.cons.injEq, and_true] at e
  obtain ⟨rfl, rfl⟩ := e
  obtain ⟨e1, e2, e3⟩ := even_many h1 h2 h3 hs n t a b tr tp tq hk
  obtain ⟨b1, b2, b3⟩ := (big_opp h1 h2 h3).mp hb
  have pos : 0 < a ∧ nat (opp p t) = a ∧ nat (opp q t) = b := by
    have hb0 := (hk 0 hn).1
    rw [show (2 * ((0 : Nat) : Int)) = 0 by rfl, Int.zero_mul, Int.add_zero] at hb0
    rcases hs with rfl | rfl
    · simp only [Int.one_mul] at tp tq
      rcases ring_opp hr with z | z
      · have z1 := z p
        refine ⟨by omega, ?_, ?_⟩
        · rw [tp]; unfold nat; rw [if_neg (by omega)]
        · rw [tq]; unfold nat; rw [if_neg (by omega)]
      · have z1 := z r
        omega
    · simp only [Int.neg_mul, Int.one_mul] at tp tq
      rcases ring_opp hr with z | z
      · have z1 := z r
        omega
      · have z1 := z p
        refine ⟨by omega, ?_, ?_⟩
        · rw [tp]; unfold nat; rw [if_pos (by omega)]; omega
        · rw [tq]; unfold nat; rw [if_pos (by omega)]; omega
  obtain ⟨ha, ep, eq⟩ := pos
  have hbn := nat_nonneg (opp q t)
  rw [eq] at hbn
  rw [ep] at b1 hd
  rw [eq] at b2 hd
  have hl := (hk (n - 1) (by omega)).2
  have e5 : 2 * ((n - 1 : Nat) : Int) + 1 = 2 * (n : Int) - 1 := by omega
  rw [e5, Int.sub_mul, Int.one_mul] at hl
  have hneg : 2 * (n : Int) * (b - a) ≤ 0 := Int.mul_nonpos_of_nonneg_of_nonpos (by omega) (by omega)
  generalize 2 * (n : Int) * (b - a) = c at hl hneg e2 e3
  have fin : ∀ x : Int, -B ≤ x → x ≤ B → nat (s * x) ≤ B := fun x l u => by
    rcases hs with rfl | rfl
    · rw [Int.one_mul]; unfold nat; split <;> omega
    · rw [Int.neg_mul, Int.one_mul]; unfold nat; split <;> omega
  refine (big_opp h1 h2 h3).mpr ⟨?_, ?_, ?_⟩
  · rw [e2]; exact fin _ (by omega) (by omega)
  · rw [e3]; exact fin _ (by omega) (by omega)
  · rw [e1, ← tr]; exact b3
/-- whole rounds change nothing -/
theorem fold_round {t : T3} {ps : List P3} {m j : Int} (h0 : 0 ≤ j) (h1 : j < m) (h : many (m - j).toNat ps t = t) : 0 ≤ j.fmod (m - j) ∧ j.fmod (m - j) ≤ j ∧ many (m - j.fmod (m - j)).toNat ps t = t := by
  obtain ⟨n, rfl⟩ : ∃ n : Nat, j = (n : Int) := ⟨j.toNat, by omega⟩
  obtain ⟨k, hk⟩ : ∃ k : Nat, m - (n : Int) = (k : Int) := ⟨(m - n).toNat, by omega⟩
  (rw [Int.fmod_eq_emod_of_nonneg _ (by omega)])
  rw [hk] at h ⊢
  rw [Int.toNat_natCast] at h
  have e1 : (n : Int) % (k : Int) = ((n % k : Nat) : Int) := by rw [Int.natCast_emod]
  rw [e1]
  have hle : n % k ≤ n := Nat.mod_le _ _
  (refine ⟨by omega, by omega, ?_⟩)
  have e2 : (m - ((n % k : Nat) : Int)).toNat = k + k * (n / k) := by
    have := Nat.div_add_mod n k
    omega
  rw [e2, many_round ps k t h]
  have e3 : (k + k * (n / k)) % k = 0 := by
    rw [Nat.add_mul_mod_self_left, Nat.mod_self]
  rw [e3]
  rfl
theorem rep_add (n m : Nat) (r : List P3) : rep (n + m) r = rep n r ++ rep m r := by
  induction n with
  | zero => rw [Nat.zero_add, rep_zero, List.nil_append]
  | succ n ih => rw [show n + 1 + m = (n + m) + 1 by omega, rep_succ, rep_succ, ih, List.append_assoc]
theorem rep_rep (n k : Nat) (r : List P3) : rep n (rep k r) = rep (n * k) r := by
  induction n with
  | zero => rw [Nat.zero_mul, rep_zero, rep_zero]
  | succ n ih => rw [rep_succ, ih, Nat.succ_mul, Nat.add_comm, rep_add]
theorem many_nil (n : Nat) (t : T3) : many n [] t = t := by
  induction n with
  | zero => rfl
  | succ n ih => exact ih
theorem mk_many (n : Nat) (ps : List P3) (t : T3) : mk (many n ps t) = mk t := by rw [← walk_rep, mk_walk]
/-- the target of so many times a core, there and back -/
theorem walk_whole (w r : List P3) (n : Nat) (t : T3) : walk t (w ++ rep n r ++ w.reverse) = walk (many n r (walk t w)) w.reverse := by rw [walk_append, walk_append, walk_rep]
theorem far_way {G : Int} {t : T3} {w v : List P3} (h : red (w ++ v)) (hb : ∃ pre p post, w = pre ++ p :: post ∧ Beyond G p (walk t (pre ++ [p]))) : G < big (walk t (w ++ v)) := by
  obtain ⟨pre, p, post, rfl, b⟩ := hb
  have e : pre ++ p :: post ++ v = pre ++ p :: (post ++ v) := by rw [List.append_assoc]; rfl
  rw [e] at h ⊢
  exact beyond_end b h
theorem far_core {G : Int} {t : T3} {w r : List P3} {m n : Nat} (h : red (w ++ rep m r ++ w.reverse)) (hn : n < m) (hb : ∃ pre p post, r = pre ++ p :: post ∧ Beyond G p (walk (many n r (walk t w)) (pre ++ [p]))) : G < big (walk t (w ++ rep m r ++ w.reverse)) := by
  obtain ⟨pre, p, post, e, b⟩ := hb
  have e1 : rep m r = rep n r ++ (pre ++ p :: post ++ rep (m - n - 1) r) := by
    rw [← e, ← rep_succ, ← rep_add]
    congr 1
    omega
  have e2 : w ++ rep m r ++ w.reverse = (w ++ rep n r ++ pre) ++ p :: (post ++ (rep (m - n - 1) r ++ w.reverse)) := by
    rw [e1]
    (simp only [List.append_assoc, List.cons_append])
  rw [e2] at h ⊢
  refine beyond_end ?_ h
  have e3 : walk t (w ++ rep n r ++ pre ++ [p]) = walk (many n r (walk t w)) (pre ++ [p]) := by
    rw [List.append_assoc (w ++ rep n r), walk_append, walk_append t w, walk_rep]
  rw [e3]
  exact b
theorem far_back {G : Int} {t : T3} {u v : List P3} (h : red (u ++ v)) (hb : ∃ pre p post, v = pre ++ p :: post ∧ Beyond G p (walk (walk t u) (pre ++ [p]))) : G < big (walk t (u ++ v)) := by
  obtain ⟨pre, p, post, rfl, b⟩ := hb
  have e : u ++ (pre ++ p :: post) = (u ++ pre) ++ p :: post := by rw [List.append_assoc]
  rw [e] at h ⊢
  refine beyond_end ?_ h
  rw [List.append_assoc, walk_append]
  exact b
theorem nat_abs_le {i B : Int} (h : nat i ≤ B) : i * i ≤ B * B := by
  rw [← nat_sq]
  exact Int.mul_le_mul h h (nat_nonneg _) (Int.le_trans (nat_nonneg _) h)
theorem mk_le {t : T3} {G : Int} (h : big t ≤ G) : mk t ≤ 3 * (G * G) + G * G * G := by
  obtain ⟨h1, h2, h3⟩ := big_le.mp h
  have hG : 0 ≤ G := Int.le_trans (nat_nonneg _) h1
  have s1 := nat_abs_le h1
  have s2 := nat_abs_le h2
  have s3 := nat_abs_le h3
  have p1 : nat t.1 * nat t.2.1 ≤ G * G := Int.mul_le_mul h1 h2 (nat_nonneg _) hG
  have p2 : nat t.1 * nat t.2.1 * nat t.2.2 ≤ G * G * G := Int.mul_le_mul p1 h3 (nat_nonneg _) (Int.mul_nonneg hG hG)
  have p0 : 0 ≤ nat t.1 * nat t.2.1 * nat t.2.2 := Int.mul_nonneg (Int.mul_nonneg (nat_nonneg _) (nat_nonneg _)) (nat_nonneg _)
  have p3 : 0 ≤ G * G * G := Int.mul_nonneg (Int.mul_nonneg hG hG) hG
  unfold mk
  split <;> omega
/-- the core and its root: what is asked once a word has been parted -/
theorem root_red {w r : List P3} {m : Nat} (h : red (w ++ rep m r ++ w.reverse)) (hm : 0 < m) : red r := by
  cases m with
  | zero => omega
  | succ m =>
    have h1 := (red_append.mp (red_append.mp h).1).2.1
    rw [rep_succ] at h1
    exact (red_append.mp h1).1
/-- so many times a word that has been parted -/
theorem parted {ps w c : List P3} (h : keeps ps = w ++ c ++ w.reverse) (n : Nat) (t : T3) : many n ps t = walk (many n c (walk t w)) w.reverse := by
  rw [many_congr (qs := w ++ c ++ w.reverse) (fun s => by rw [← h, keeps_walk]), many_around]
theorem parted_red {ps w c : List P3} (h : keeps ps = w ++ c ++ w.reverse) (hc : c.length ≤ 1 ∨ c.head? ≠ c.getLast?) (hn : c ≠ []) {n : Nat} (h0 : 0 < n) (h1 : c.length = 1 → n = 1) : red (w ++ rep n c ++ w.reverse) := by
  have hr : red (w ++ c ++ w.reverse) := by rw [← h]; exact keeps_red ps
  by_cases hl : c.length = 1
  · rw [h1 hl, rep_succ, rep_zero, List.append_nil]
    exact hr
  · refine whole_red hr ⟨(red_append.mp (red_append.mp hr).1).2.1, fun p q hp hq e => ?_⟩ hn n h0
    rcases hc with hc | hc
    · have : 0 < c.length := List.length_pos_iff.mpr hn
      omega
    · exact hc (by rw [hp, hq, e])
end At

namespace At
/-- the turn at p leads down from t: a ring with sizes of 2 and more, the tie opposite p more than half the product of the others -/
def Down (p : P3) (t : T3) : Prop := ring t ∧ 2 ≤ nat (co p t) ∧ 2 ≤ nat (go p t) ∧ nat (co p t) * nat (go p t) < 2 * nat (opp p t)
theorem beyond_down {G : Int} {p : P3} {t : T3} : Beyond G p t ↔ G < nat (opp p t) ∧ Down p t := Iff.rfl
theorem opp_top {u v w : Int} (h1 : 2 ≤ u) (h2 : 2 ≤ v) (h : u * v < 2 * w) : u < w ∧ v < w := by
  have a := Int.mul_le_mul_of_nonneg_left h2 (show 0 ≤ u by omega)
  have b := Int.mul_le_mul_of_nonneg_right h1 (show 0 ≤ v by omega)
  omega
theorem Down.top {p : P3} {t : T3} (d : Down p t) : nat (co p t) < nat (opp p t) ∧ nat (go p t) < nat (opp p t) := opp_top d.2.1 d.2.2.1 d.2.2.2
theorem Down.least {p : P3} {x y z : Int} (d : Down p (x, y, z)) : 2 ≤ min (min (nat x) (nat y)) (nat z) := by
  have t := d.top
  obtain ⟨_, h1, h2, _⟩ := d
  cases p
  · have : nat z < nat y := t.1
    have : 2 ≤ nat z := h1
    have : 2 ≤ nat x := h2
    omega
  · have : nat x < nat z := t.1
    have : 2 ≤ nat x := h1
    have : 2 ≤ nat y := h2
    omega
  · have : nat y < nat x := t.1
    have : 2 ≤ nat y := h1
    have : 2 ≤ nat z := h2
    omega
theorem top_only {p q : P3} {t : T3} (hp : ∀ s, nat (opp s t) ≤ nat (opp p t)) (d : Down q t) : q = p := by
  have top := d.top
  obtain ⟨x, y, z⟩ := t
  have h := hp q
  cases p <;> cases q <;> first | rfl | (exfalso; simp only [opp, co, go] at top h; omega)
theorem ring_prod {t : T3} (p : P3) (r : ring t) : go p t * co p t = nat (co p t) * nat (go p t) := by
  have e : ∀ {u v : Int}, (0 < u ∧ 0 < v) ∨ (u < 0 ∧ v < 0) → v * u = nat u * nat v := fun {u v} h => by
    unfold nat
    (rcases h with ⟨h1, h2⟩ | ⟨h1, h2⟩)
    · rw [if_neg (by omega), if_neg (by omega), Int.mul_comm]
    · rw [if_pos h1, if_pos h2, Int.neg_mul_neg, Int.mul_comm]
  obtain ⟨x, y, z⟩ := t
  refine e ?_
  rcases r with ⟨h1, h2, h3⟩ | ⟨h1, h2, h3⟩
  · left
    cases p
    · exact ⟨h3, h1⟩
    · exact ⟨h1, h2⟩
    · exact ⟨h2, h3⟩
  · right
    cases p
    · exact ⟨h3, h1⟩
    · exact ⟨h1, h2⟩
    · exact ⟨h2, h3⟩
theorem top_down {p s : P3} {t : T3} (hp : ∀ s, nat (opp s t) ≤ nat (opp p t)) (c : 2 * nat (opp p t) ≤ go p t * co p t) (e : go p t * co p t = nat (co p t) * nat (go p t)) (d : Down s t) : False := by
  have h := top_only hp d
  subst h
  have := d.2.2.2
  omega
theorem down_of {p : P3} {t : T3} (r : ring t) (least : ∀ s : P3, 2 ≤ nat (opp s t)) (c : ¬ 2 * nat (opp p t) ≤ go p t * co p t) (e : go p t * co p t = nat (co p t) * nat (go p t)) : Down p t := by
  refine ⟨r, ?_, ?_, by omega⟩
  · obtain ⟨x, y, z⟩ := t
    cases p
    · exact least .b
    · exact least .c
    · exact least .a
  · obtain ⟨x, y, z⟩ := t
    cases p
    · exact least .c
    · exact least .a
    · exact least .b
end At

namespace At
open L2 PyProof.Rows PySem.Spec PySem
theorem hu64 {A : Around} {k : Nat} (hr : Room k A) : A.units + 64 < cLine := by have := hr.un; omega
theorem go_rGetL {K : PySem.W.Frag} {H : Hp} {Q : VK} {v : V} {p : Addr} {xs : List V} {k : Int} (h0 : 0 ≤ k) (h1 : k < 2 ^ 63) (h : SqL K H p xs) (e : xs[k.toNat]? = some v) (q : Q v H) : rGetL K (.ref p) (.int k) H Q := ⟨p, xs, k, v, rfl, rfl, h0, h1, h, e, q⟩
theorem nxt_lo (p : P3) : 0 ≤ (nxt p).i := by cases p <;> decide
theorem nxt_hi (p : P3) : (nxt p).i < 2 ^ 63 := by cases p <;> decide
theorem go_make {C : Addr} {sp : Sp} {E : XK} {t : TA} {σ : L2.St} {H : Hp} {Q : VK} (h : t σ H fun vs H1 => ∀ x dx, H1 x = none → H1 dx = none → dx ≠ x →
  sp (.ref x :: vs) (upd (upd H1 dx (.own x)) x (.ins C dx [])) (fun v H2 => v = .non ∧ Q (.ref x) H2) E) : tMake C sp [] E t σ H Q := by
  have e : (fun vs H1 => ∀ x dx, H1 x = none → H1 dx = none → dx ≠ x → sp (.ref x :: (vs ++ [])) (upd (upd H1 dx (.own x)) x (.ins C dx [])) (fun v H2 => v = .non ∧ Q (.ref x) H2) E) = (fun vs H1 => ∀ x dx, H1 x = none → H1 dx = none → dx ≠ x →
      sp (.ref x :: vs) (upd (upd H1 dx (.own x)) x (.ins C dx [])) (fun v H2 => v = .non ∧ Q (.ref x) H2) E) := by
    funext vs H1
    rw [List.append_nil]
  show t σ H fun vs H1 => ∀ x dx, H1 x = none → H1 dx = none → dx ≠ x → sp (.ref x :: (vs ++ [])) (upd (upd H1 dx (.own x)) x (.ins C dx [])) (fun v H2 => v = .non ∧ Q (.ref x) H2) E
  rw [e]
  exact h
/-! ### a dict of the module, read -/
theorem ix_kd' {X : Cx} {K : PySem.W.Frag} {w : World} {d : Addr} {es : Array DictEntry} {n : Nat} (D : KDict K w d es n) (eK : X.K = K := by rfl) (ew : X.w = w := by rfl) : IxR X (rKd K d) := by
  subst eK ew
  exact ix_kd D
theorem ix_tup' {X : Cx} {K : PySem.W.Frag} (eK : X.K = K := by rfl) : IxR X (rIxT K) := by
  subst eK
  exact ix_tup
theorem ix_list' {X : Cx} {K : PySem.W.Frag} (eK : X.K = K := by rfl) : IxR X (rIxL K) := by
  subst eK
  exact ix_list
def rInKd (K : PySem.W.Frag) (d : Addr) : R2 := fun x y H Q => ∃ (z : Str) (r : Option Value), x = .str z ∧ y = .ref d ∧ PySem.W.nsIn K d z = some r ∧ Q (.bl r.isSome) H
theorem op_in_kd' {X : Cx} {K : PySem.W.Frag} {w : World} {d : Addr} {es : Array DictEntry} {n : Nat} (D : KDict K w d es n) (eK : X.K = K := by rfl) (ew : X.w = w := by rfl) : OpR X (compareOp .In) (rInKd K d) := by
  subst eK ew
  exact op_in_kd D
/-! ### isinstance of a built-in type -/
theorem go_isi {K : PySem.W.Frag} {H : Hp} {Q : VK} {x : V} {m n : String} {b : Bool} (ty : TyOf K H x (.type m)) (e : PySem.W.kitOne K (.type m) (.type n) = some b) (q : Q (.bl b) H) : rIsi K [x, .ty n] H Q := ⟨x, .ty n, .type m, .type n, b, rfl, .ty n, .base ty, e, q⟩
theorem kit_ii (K : PySem.W.Frag) : PySem.W.kitOne K (.type "int") (.type "int") = some true := by rfl
theorem kit_ib (K : PySem.W.Frag) : PySem.W.kitOne K (.type "int") (.type "bool") = some false := by rfl
theorem kit_ss (K : PySem.W.Frag) : PySem.W.kitOne K (.type "str") (.type "str") = some true := by rfl
theorem kit_tt (K : PySem.W.Frag) : PySem.W.kitOne K (.type "tuple") (.type "tuple") = some true := by rfl
/-! ### numbers, places, words -/
def HUGE : Int := 2 ^ 400000
def HALF : Int := 2 ^ 199999
def MID : Int := 2 ^ 8000
def BB : Int := GR * MT
def BB3 : Int := BB + 2 * MID * (2 * BB)
theorem gr_bb : GR ≤ BB := by decide +kernel
theorem bb_mid : BB ≤ MID := by decide +kernel
theorem bb_bb3 : BB ≤ BB3 := by decide +kernel
theorem bb3_half : BB3 ≤ HALF := by decide +kernel
theorem mk_bb {t : T3} (h : big t ≤ GR) : 4 * mk t ≤ 3 * (BB * BB) := by
  have h1 := mk_le h
  have h2 : 4 * (3 * (GR * GR) + GR * GR * GR) ≤ 3 * (BB * BB) := by decide +kernel
  omega
theorem mk_bb3 {t : T3} (h : big t ≤ GR) : 4 * mk t ≤ 3 * (BB3 * BB3) := by
  have h1 := mk_le h
  have h2 : 4 * (3 * (GR * GR) + GR * GR * GR) ≤ 3 * (BB3 * BB3) := by decide +kernel
  omega
theorem half_ok {B : Int} (h0 : 0 ≤ B) (h : B ≤ HALF) : B * B + B ≤ HUGE := by
  have h1 : B * B ≤ HALF * HALF := Int.mul_le_mul h h h0 (Int.le_trans h0 h)
  have h2 : HALF * HALF + HALF ≤ HUGE := by decide +kernel
  omega
theorem half_huge : HALF ≤ HUGE := by decide +kernel
theorem mid_half : MID ≤ HALF := by decide +kernel
def P3.ch : P3 → Nat
  | .a => 97
  | .b => 98
  | .c => 99
/-- a word -/
def wd (ps : List P3) : Str := ⟨(ps.map P3.ch).toArray⟩
def lt (p : P3) : Str := ⟨#[p.ch]⟩
theorem lt_a : lt .a = ("a" : Str) := by decide +kernel
theorem lt_b : lt .b = ("b" : Str) := by decide +kernel
theorem lt_c : lt .c = ("c" : Str) := by decide +kernel
def prv : P3 → P3
  | .a => .c
  | .b => .a
  | .c => .b
/-- the numbers as a tuple's items -/
def tv (t : T3) : List V := [.int t.1, .int t.2.1, .int t.2.2]
def szs (t : T3) : T3 := (nat t.1, nat t.2.1, nat t.2.2)
def pl (ps : List P3) : List V := ps.map fun p => .int p.i
theorem pl_rev (ps : List P3) : (pl ps).reverse = pl ps.reverse := by rw [pl, pl, List.map_reverse]
theorem at_co (p : P3) (t : T3) : atI (tv t) (prv p).i = some (.int (co p t)) := by cases p <;> rfl
theorem at_go (p : P3) (t : T3) : atI (tv t) p.i = some (.int (go p t)) := by cases p <;> rfl
theorem at_opp (p : P3) (t : T3) : atI (tv t) (nxt p).i = some (.int (opp p t)) := by cases p <;> rfl
theorem at_set1 (p : P3) {x y z : V} : ixN [x, y, z].length (prv p).i = some (prv p).i.toNat := by cases p <;> rfl
theorem at_set2 (p : P3) {x y z w : V} {j : Nat} : ixN ([x, y, z].set j w).length p.i = some p.i.toNat := by
  rw [List.length_set]
  cases p <;> rfl
theorem at_set3 (p : P3) (t : T3) : (([.int (push (co p t) (go p t) (opp p t)), .int (push (co p t) (go p t) (opp p t)), .int (push (co p t) (go p t) (opp p t))] : List V).set (prv p).i.toNat (.int (-co p t))).set p.i.toNat (.int (-go p t)) = tv (turn p t) := by
  cases p <;> rfl
theorem at_opp2 (p : P3) (t : T3) : (tv t)[(nxt p).i.toNat]? = some (.int (opp p t)) := by cases p <;> rfl
theorem at_opp3 {p q : P3} (h : p ≠ q) (t : T3) (u : V) : ((tv t).set (nxt p).i.toNat u)[(nxt q).i.toNat]? = some (.int (opp q t)) := by cases p <;> cases q <;> first | exact absurd rfl h | rfl
theorem at_ix (p : P3) (t : T3) : ixN (tv t).length (nxt p).i = some (nxt p).i.toNat := by cases p <;> rfl
theorem at_ix2 (p : P3) (t : T3) (j : Nat) (u : V) : ixN ((tv t).set j u).length (nxt p).i = some (nxt p).i.toNat := by
  rw [List.length_set]
  exact at_ix p t
theorem at_set5 {p q r : P3} (h1 : p ≠ q) (h2 : q ≠ r) (h3 : p ≠ r) (t s : T3) {u v : Int} (e1 : opp p s = u) (e2 : opp q s = v) (e3 : opp r s = opp r t) : ((tv t).set (nxt p).i.toNat (.int u)).set (nxt q).i.toNat (.int v) = tv s := by
  subst e1 e2
  obtain ⟨x, y, z⟩ := t
  obtain ⟨a, b, c⟩ := s
  cases p <;> cases q <;> cases r <;> first | exact absurd rfl h1 | exact absurd rfl h2 | exact absurd rfl h3 | (simp only [opp] at e3; subst e3; rfl)
def chi (c : Nat) : Int := if c = 97 then 0 else if c = 98 then 1 else 2
theorem chi_ch (p : P3) : chi p.ch = p.i := by cases p <;> rfl
theorem wd_size (ps : List P3) : (wd ps).cps.size = ps.length := by simp [wd]
theorem wd_mem {ps : List P3} {c : Nat} (h : c ∈ (wd ps).cps.toList) : ∃ p : P3, c = p.ch := by
  simp only [wd, List.mem_map] at h
  obtain ⟨p, _, rfl⟩ := h
  exact ⟨p, rfl⟩
theorem wd_list (ps : List P3) : (wd ps).cps.toList.map (fun c => V.int (chi c)) = pl ps := by
  simp only [wd, pl, List.map_map]
  congr 1
  funext p
  show V.int (chi p.ch) = _
  rw [chi_ch]
theorem pl_at {ps : List P3} {i : Nat} {x : V} (h : (pl ps)[i]? = some x) : ∃ c : P3, ps[i]? = some c ∧ x = .int c.i := by
  rw [pl, List.getElem?_map] at h
  cases z : ps[i]? with
  | none => rw [z] at h; cases h
  | some c => rw [z] at h; exact ⟨c, rfl, (Option.some.inj h).symm⟩
theorem fold_len (ps : List P3) : (ps.foldl keep []).length ≤ ps.length := keeps_length ps
theorem p3_inj {p q : P3} (h : p.i = q.i) : p = q := by cases p <;> cases q <;> first | rfl | cases h
/-! ### == of lists and tuples of ints -/
theorem dp_ints {K : PySem.W.Frag} {H : Hp} : ∀ ns : List Int, DpAll K H (ns.map V.int) (ns.map PyData.int)
  | [] => .nil
  | n :: ns => .cons (.int n) (dp_ints ns)
theorem lay_ints : ∀ ns : List Int, PyData.canLayAll0 (ns.map PyData.int) = true
  | [] => by simp only [List.map_nil, PyData.canLayAll0]
  | n :: ns => by simp only [List.map_cons, PyData.canLayAll0, PyData.canLay0, lay_ints ns, Bool.and_self]
theorem deep_ints : ∀ ns : List Int, PyData.depthAll (ns.map PyData.int) = 0
  | [] => by simp only [List.map_nil, PyData.depthAll]
  | n :: ns => by simp only [List.map_cons, PyData.depthAll, PyData.depth, deep_ints ns, Nat.max_self]
theorem eqv_ints : ∀ ns ms : List Int, PyData.eqvAll (ns.map PyData.int) (ms.map PyData.int) = decide (ns = ms)
  | [], [] => (by simp [PyData.eqvAll])
  | [], m :: ms => by simp [PyData.eqvAll]
  | n :: ns, [] => by simp [PyData.eqvAll]
  | n :: ns, m :: ms => by
    simp only [List.map_cons, PyData.eqvAll, PyData.eqv, eqv_ints ns ms, List.cons.injEq]
    by_cases h : n = m <;> by_cases h2 : ns = ms <;> simp [h, h2]
theorem shaped_lst (ns : List Int) : SeqAt.shaped (.list (ns.map PyData.int)) = true := by
  unfold SeqAt.shaped
  simp only [PyData.canLay0, PyData.depth, lay_ints, deep_ints]
  rfl
theorem shaped_tup (ns : List Int) : SeqAt.shaped (.tuple (ns.map PyData.int)) = true := by
  unfold SeqAt.shaped
  simp only [PyData.canLay0, PyData.depth, lay_ints, deep_ints]
  rfl
theorem go_eqL {K : PySem.W.Frag} {H : Hp} {p q : Addr} {ns ms : List Int} {Q : VK} (h1 : SqL K H p (ns.map V.int)) (h2 : SqL K H q (ms.map V.int)) (k : Q (.bl (decide (ns = ms))) H) : rEqD K (.ref p) (.ref q) H Q :=
  ⟨_, _, .lst h1 (dp_ints ns), .lst h2 (dp_ints ms), shaped_lst ns, shaped_lst ms, by rw [PyData.eqv, eqv_ints]; exact k⟩
theorem go_eqT {K : PySem.W.Frag} {H : Hp} {p q : Addr} {ns ms : List Int} {Q : VK} (h1 : SqT K H p (ns.map V.int)) (h2 : SqT K H q (ms.map V.int)) (k : Q (.bl (decide (ns = ms))) H) : rEqD K (.ref p) (.ref q) H Q :=
  ⟨_, _, .tup h1 (dp_ints ns), .tup h2 (dp_ints ms), shaped_tup ns, shaped_tup ms, by rw [PyData.eqv, eqv_ints]; exact k⟩
theorem pl_ints (ps : List P3) : pl ps = (ps.map P3.i).map V.int := by rw [pl, List.map_map]; rfl
theorem pl_inj {ps qs : List P3} : ps.map P3.i = qs.map P3.i ↔ ps = qs := by
  constructor
  · intro h
    have : ∀ (ps qs : List P3), ps.map P3.i = qs.map P3.i → ps = qs := by
      intro ps
      induction ps with
      | nil => intro qs h; cases qs with
        | nil => rfl
        | cons q qs => cases h
      | cons p ps ih => intro qs h; cases qs with
        | nil => cases h
        | cons q qs =>
          (simp only [List.map_cons, List.cons.injEq] at h)
          rw [p3_inj h.1, ih qs h.2]
    exact this ps qs h
  · intro h; rw [h]
theorem go_eqP {K : PySem.W.Frag} {H : Hp} {p q : Addr} {ps qs : List P3} {Q : VK} (h1 : SqL K H p (pl ps)) (h2 : SqL K H q (pl qs)) (k : Q (.bl (decide (ps = qs))) H) : rEqD K (.ref p) (.ref q) H Q := by
  rw [pl_ints] at h1 h2
  refine go_eqL h1 h2 ?_
  have e : decide (ps.map P3.i = qs.map P3.i) = decide (ps = qs) := decide_eq_decide.mpr pl_inj
  rw [e]
  exact k
theorem tv_ints (t : T3) : tv t = [t.1, t.2.1, t.2.2].map V.int := rfl
theorem go_eq3 {K : PySem.W.Frag} {H : Hp} {p q : Addr} {t s : T3} {Q : VK} (h1 : H p = some (.tup (tv t))) (h2 : H q = some (.tup (tv s))) (k : Q (.bl (decide (t = s))) H) : rEqD K (.ref p) (.ref q) H Q := by
  refine go_eqT (ns := [t.1, t.2.1, t.2.2]) (ms := [s.1, s.2.1, s.2.2]) (SqT.of h1) (SqT.of h2) ?_
  have e : decide ([t.1, t.2.1, t.2.2] = [s.1, s.2.1, s.2.2]) = decide (t = s) := decide_eq_decide.mpr (by
    obtain ⟨x, y, z⟩ := t
    obtain ⟨x', y', z'⟩ := s
    simp)
  rw [e]
  exact k
theorem atI_back {α : Type} (u : List α) (z : α) (v : List α) {n : Nat} (h : v.length = n) : atI (u ++ z :: v) (-1 - (n : Int)) = some z := by
  unfold atI ixN
  rw [if_neg (by omega), List.length_append, List.length_cons, if_pos (by omega)]
  have e : ((-1 - (n : Int)) + ((u.length + (v.length + 1) : Nat) : Int)).toNat = u.length := by omega
  rw [e]
  show (u ++ z :: v)[u.length]? = some z
  rw [List.getElem?_append_right (Nat.le_refl _), Nat.sub_self]
  rfl
theorem sIx_in (n d j : Nat) (h : j ≤ n) : HT.sIx n d (some (j : Int)) = j := by
  rw [HT.sIx_nat]
  omega
theorem cut_to (xs : List V) (j : Nat) (h : j ≤ xs.length) : cutV xs none (some (j : Int)) = xs.take j := by
  unfold cutV
  rw [sIx_in _ _ _ h, HT.sIx_none, List.drop_zero, Nat.sub_zero]
theorem cut_mid (xs : List V) (i : Nat) (k : Int) (h0 : (i : Int) ≤ k) (h1 : 0 ≤ k) (h2 : k ≤ xs.length) : cutV xs (some (i : Int)) (some k) = (xs.drop i).take (k.toNat - i) := by
  obtain ⟨j, rfl⟩ : ∃ j : Nat, k = (j : Int) := ⟨k.toNat, by omega⟩
  unfold cutV
  rw [sIx_in _ _ _ (by omega), sIx_in _ _ _ (by omega)]
  rfl
theorem pl_rep (ps : List P3) : ∀ n : Nat, (List.replicate n (pl ps)).flatten = pl (rep n ps)
  | 0 => rfl
  | n + 1 => by
    rw [List.replicate_succ, List.flatten_cons, pl_rep ps n, rep_succ, pl, pl, pl, List.map_append]
theorem core_cut (w c : List P3) : ((pl (w ++ c ++ w.reverse)).drop w.length).take c.length = pl c := by
  rw [pl, ← List.map_drop, ← List.map_take, List.append_assoc, List.drop_left, List.take_left]
  rfl
theorem mul_ok {B a b : Int} (hB : B ≤ HUGE) (ha : nat a ≤ B) (hb : nat b ≤ B) : CMulW a b := by
  have e : ∀ x : Int, nat x ≤ B → x.natAbs < 2 ^ 400001 := fun x hx => by
    have h1 : (x.natAbs : Int) = nat x := by unfold nat; split <;> omega
    have h2 : (x.natAbs : Int) ≤ 2 ^ 400000 := by
      rw [h1]
      exact Int.le_trans hx hB
    have h3 : x.natAbs ≤ 2 ^ 400000 := by exact_mod_cast h2
    exact Nat.lt_of_le_of_lt h3 (Nat.pow_lt_pow_right (by decide) (by decide))
  exact wide_mul (e a ha) (e b hb) (by decide) (by decide) (by decide)
/-! ### standings and rows of turns -/
def StAt (K : PySem.W.Frag) (H : Hp) (a : Addr) (t : T3) : Prop := ∃ dx n, H a = some (.ins (He.ga K "Standing") dx [("_numbers", .ref n)]) ∧ H n = some (.tup (tv t))
theorem StAt.ext {K : PySem.W.Frag} {H H' : Hp} {a : Addr} {t : T3} (h : StAt K H a t) (e : Ext H H') : StAt K H' a t := by
  obtain ⟨dx, n, h1, h2⟩ := h
  exact ⟨dx, n, e _ _ h1, e _ _ h2⟩
abbrev Row := List (List P3 × Int)
def PairAt (H : Hp) (r : Addr) (pm : List P3 × Int) : Prop := H r = some (.tup [.str (wd pm.1), .int pm.2])
def PairsAt (H : Hp) : List Addr → Row → Prop
  | [], [] => True
  | r :: rs, pm :: row => PairAt H r pm ∧ PairsAt H rs row
  | _, _ => False
def RowAt (H : Hp) (a : Addr) (row : Row) : Prop := ∃ rs : List Addr, H a = some (.tup (rs.map V.ref)) ∧ PairsAt H rs row
theorem PairsAt.ext {H H' : Hp} (e : Ext H H') : ∀ {rs : List Addr} {row : Row}, PairsAt H rs row → PairsAt H' rs row
  | [], [], _ => trivial
  | _ :: _, _ :: _, h => ⟨e _ _ h.1, PairsAt.ext e h.2⟩
  | [], _ :: _, h => h
  | _ :: _, [], h => h
theorem RowAt.ext {H H' : Hp} {a : Addr} {row : Row} (h : RowAt H a row) (e : Ext H H') : RowAt H' a row := by
  obtain ⟨rs, h1, h2⟩ := h
  exact ⟨rs, e _ _ h1, h2.ext e⟩
theorem PairsAt.len {H : Hp} : ∀ {rs : List Addr} {row : Row}, PairsAt H rs row → rs.length = row.length
  | [], [], _ => rfl
  | _ :: _, _ :: _, h => congrArg (· + 1) (PairsAt.len h.2)
  | [], _ :: _, h => h.elim
  | _ :: _, [], h => h.elim
theorem PairsAt.at_ {H : Hp} : ∀ {rs : List Addr} {row : Row}, PairsAt H rs row → ∀ {i : Nat} {x : V}, (rs.map V.ref)[i]? = some x → ∃ r pm, x = .ref r ∧ rs[i]? = some r ∧ row[i]? = some pm ∧ PairAt H r pm
  | [], [], _, i, x, hx => by simp at hx
  | r :: rs, pm :: row, h, 0, x, hx => by
    simp at hx
    exact ⟨r, pm, hx.symm, rfl, rfl, h.1⟩
  | r :: rs, pm :: row, h, i + 1, x, hx => by
    rw [List.map_cons, List.getElem?_cons_succ] at hx
    obtain ⟨r', pm', h1, h2, h3, h4⟩ := PairsAt.at_ h.2 hx
    exact ⟨r', pm', h1, by rw [List.getElem?_cons_succ]; exact h2, by rw [List.getElem?_cons_succ]; exact h3, h4⟩
  | [], _ :: _, h, _, _, _ => h.elim
  | _ :: _, [], h, _, _, _ => h.elim
def PairOk (pm : List P3 × Int) : Prop := 1 ≤ pm.1.length ∧ pm.1.length ≤ 12 ∧ 0 ≤ pm.2 ∧ pm.2 ≤ MT
def RowOk (row : Row) : Prop := row.length ≤ 200 ∧ ∀ pm ∈ row, PairOk pm
def rowWalk (t : T3) (row : Row) : T3 := row.foldl (fun t pm => many pm.2.toNat pm.1 t) t
def rowLen (row : Row) : Int := (row.map fun pm => (pm.1.length : Int) * pm.2).sum
theorem rowWalk_succ {t : T3} {row : Row} {i : Nat} {pm : List P3 × Int} (h : row[i]? = some pm) : rowWalk t (row.take (i + 1)) = many pm.2.toNat pm.1 (rowWalk t (row.take i)) := by
  rw [List.take_add_one, h]
  unfold rowWalk
  rw [List.foldl_append]
  rfl
end At

namespace At
open L2 PyProof.Rows PySem.Spec PySem
/-! ### a drawn cup: a list of two ints that changes -/
def Cup (H : Hp) (c : Addr) : Prop := ∃ x d : Int, H c = some (.lst [.int x, .int d]) ∧ 0 ≤ x ∧ x < 2147483629 ∧ 0 ≤ d
/-- all but the cup stays -/
def ExtC (c : Addr) (H H' : Hp) : Prop := ∀ a o, a ≠ c → H a = some o → H' a = some o
theorem ExtC.refl (c : Addr) (H : Hp) : ExtC c H H := fun _ _ _ h => h
theorem ExtC.trans {c : Addr} {H1 H2 H3 : Hp} (e : ExtC c H1 H2) (f : ExtC c H2 H3) : ExtC c H1 H3 := fun a o n h => f a o n (e a o n h)
theorem ExtC.of {c : Addr} {H H' : Hp} (e : Ext H H') : ExtC c H H' := fun a o _ h => e a o h
theorem ExtC.new {c p : Addr} {H : Hp} {o : HO} (np : H p = none) : ExtC c H (upd H p o) := .of (Evl.Ex.new np)
theorem ExtC.set {c : Addr} {H : Hp} {o : HO} : ExtC c H (upd H c o) := fun a u n h => by rw [upd_ne n]; exact h
theorem Cup.ext {c : Addr} {H H' : Hp} (h : Cup H c) (e : Ext H H') : Cup H' c := by
  obtain ⟨x, d, h1, h2⟩ := h
  exact ⟨x, d, e _ _ h1, h2⟩
theorem Cup.new {c p : Addr} {H : Hp} {o : HO} (h : Cup H c) (np : H p = none) : Cup (upd H p o) c := h.ext (Evl.Ex.new np)
theorem ExtC.tup {c a : Addr} {H H' : Hp} {xs : List V} (e : ExtC c H H') (hc : Cup H c) (h : H a = some (.tup xs)) : H' a = some (.tup xs) := e a _ (fun z => by
  obtain ⟨x, d, h1, _⟩ := hc
  rw [z, h1] at h
  cases h) h
theorem ExtC.ins {c a C dx : Addr} {H H' : Hp} {fs : List (Str × V)} (e : ExtC c H H') (hc : Cup H c) (h : H a = some (.ins C dx fs)) : H' a = some (.ins C dx fs) := e a _ (fun z => by
  obtain ⟨x, d, h1, _⟩ := hc
  rw [z, h1] at h
  cases h) h
theorem ExtC.st {K : PySem.W.Frag} {c a : Addr} {H H' : Hp} {t : T3} (e : ExtC c H H') (hc : Cup H c) (h : StAt K H a t) : StAt K H' a t := by
  obtain ⟨dx, n, h1, h2⟩ := h
  exact ⟨dx, n, e.ins hc h1, e.tup hc h2⟩
theorem ExtC.pairs {c : Addr} {H H' : Hp} (e : ExtC c H H') (hc : Cup H c) : ∀ {rs : List Addr} {row : Row}, PairsAt H rs row → PairsAt H' rs row
  | [], [], _ => trivial
  | _ :: _, _ :: _, h => ⟨e.tup hc h.1, e.pairs hc h.2⟩
  | [], _ :: _, h => h
  | _ :: _, [], h => h
theorem ExtC.row {c a : Addr} {H H' : Hp} {row : Row} (e : ExtC c H H') (hc : Cup H c) (h : RowAt H a row) : RowAt H' a row := by
  obtain ⟨rs, h1, h2⟩ := h
  exact ⟨rs, e.tup hc h1, e.pairs hc h2⟩
theorem wd_at {ps : List P3} {i c : Nat} (h : (wd ps).cps[i]? = some c) : ∃ p : P3, ps[i]? = some p ∧ c = p.ch := by
  have h' : (ps.map P3.ch)[i]? = some c := by
    rw [← h]
    simp [wd]
  rw [List.getElem?_map] at h'
  cases z : ps[i]? with
  | none => rw [z] at h'; cases h'
  | some p => rw [z] at h'; exact ⟨p, rfl, (Option.some.inj h').symm⟩
theorem ne_cup {c l : Addr} {H : Hp} (h : Cup H c) (n : H l = none) : l ≠ c := fun z => by
  obtain ⟨x, d, h1, _⟩ := h
  rw [z, h1] at n
  cases n
def TOPB : Int := 10 ^ 13
theorem topb_mid : (TOPB + 1) * (TOPB + 1) + 2 ≤ MID := by decide +kernel
theorem top_sq {t a b : Int} (h0 : 0 ≤ a) (h1 : 0 ≤ b) (ha : a ≤ t + 1) (hb : b ≤ t + 1) : a * b ≤ (t + 1) * (t + 1) := Int.mul_le_mul ha hb h1 (by omega)
theorem top_mid {t : Int} (h0 : 1 ≤ t) (h : t ≤ TOPB) : (t + 1) * (t + 1) + 2 ≤ MID := by
  have := Int.mul_le_mul (show t + 1 ≤ TOPB + 1 by omega) (show t + 1 ≤ TOPB + 1 by omega) (by omega) (by decide)
  exact Int.le_trans (by omega) topb_mid
theorem mixed (x : Int) : 0 ≤ x.fmod 2147483629 ∧ x.fmod 2147483629 < 2147483629 := by
  (rw [Int.fmod_eq_emod_of_nonneg _ (by decide)])
  omega
theorem modI {x m : Int} (h : 0 < m) : 0 ≤ x.fmod m ∧ x.fmod m < m := by
  (rw [Int.fmod_eq_emod_of_nonneg _ (by omega)])
  exact ⟨Int.emod_nonneg _ (by omega), Int.emod_lt_of_pos _ h⟩
theorem cdivp {i j : Int} (h0 : 0 < j) (h1 : j ≤ MID) : CDivP i j := ⟨h0, PyProof.noPylong_of_log2 ((Nat.log2_lt (by omega)).mpr (Nat.lt_of_le_of_lt (show j.natAbs ≤ 2 ^ 8000 by
  have h2 : (j.natAbs : Int) ≤ 2 ^ 8000 := by
    rw [show (j.natAbs : Int) = j by omega]
    exact h1
  exact_mod_cast h2) (Nat.pow_lt_pow_right (by decide) (by decide))))⟩
end At

namespace At
open L2 PyProof.Rows PySem.Spec PySem
/-! ### text * int -/
def rStrMul : R2 := fun x y H Q => ∃ (z : Str) (n : Int), x = .str z ∧ y = .int n ∧ MulOk z n ∧ Q (.str (Txt.mul z n)) H
theorem op_strMul {X : Cx} : OpR X (binaryOp .Mult) rStrMul := by
  intro pins s0 τ H x y v u Q J rx ry h
  obtain ⟨z, n, rfl, rfl, ok, q⟩ := h
  obtain ⟨t1, rfl⟩ := rx
  obtain ⟨t2, rfl⟩ := ry
  exact SB.mul ok fun t' k => ⟨.str (Txt.mul z n), H, J.tok _, ⟨t', rfl⟩, q⟩
theorem flat_reps (z : Array Nat) : ∀ (n : Nat) (a : Array Nat), (List.replicate n z).foldl (· ++ ·) a = a ++ (List.replicate n z).foldl (· ++ ·) #[]
  | 0, a => by simp
  | n + 1, a => by
    rw [List.replicate_succ, List.foldl_cons, List.foldl_cons, flat_reps z n (a ++ z), flat_reps z n (#[] ++ z), Array.empty_append, Array.append_assoc]
theorem reps_wd (ps : List P3) : ∀ n : Nat, (List.replicate n (wd ps).cps).foldl (· ++ ·) #[] = (wd (rep n ps)).cps
  | 0 => rfl
  | n + 1 => by
    rw [List.replicate_succ, List.foldl_cons, flat_reps, reps_wd ps n, rep_succ, Array.empty_append]
    show (wd ps).cps ++ (wd (rep n ps)).cps = _
    simp [wd]
theorem mul_wd (ps : List P3) {n : Int} (h0 : 0 ≤ n) : Txt.mul (wd ps) n = wd (rep n.toNat ps) := by
  unfold Txt.mul
  by_cases h1 : n < 1
  · rw [if_pos h1, show n = 0 by omega]
    rfl
  · rw [if_neg h1]
    by_cases h2 : (n == 1 || (wd ps).length == 0) = true
    · rw [if_pos h2]
      rw [Bool.or_eq_true] at h2
      rcases h2 with h2 | h2
      · rw [eq_of_beq h2]
        show wd ps = wd (rep 1 ps)
        rw [rep_succ, rep_zero, List.append_nil]
      · have h3 : (wd ps).length = 0 := eq_of_beq h2
        have h4 : ps.length = 0 := by rw [← wd_size ps]; exact h3
        rw [List.length_eq_zero_iff.mp h4]
        have : ∀ k : Nat, rep k ([] : List P3) = [] := fun k => by
          induction k with
          | zero => rfl
          | succ k ih => rw [rep_succ, ih]; rfl
        rw [this]
    · rw [if_neg h2, reps_wd]
theorem mulok_wd {ps : List P3} {n : Int} (h : ps.length ≤ 1000) (h0 : 0 ≤ n) (h1 : n ≤ 1000) : MulOk (wd ps) n := by
  have hz : (wd ps).length = ps.length := wd_size ps
  refine ⟨by rw [Bool.or_eq_false_iff]; exact ⟨decide_eq_false (by omega), decide_eq_false (by omega)⟩, fun g1 _ => ?_, fun g1 _ => ?_⟩
  · rw [hz]
    have g2 : (2 ^ 63 - 1 : Int) / 1000 ≤ (2 ^ 63 - 1) / n := (Int.le_ediv_iff_mul_le (by omega)).mpr (by
      have g3 : (2 ^ 63 - 1 : Int) / 1000 * n ≤ (2 ^ 63 - 1 : Int) / 1000 * 1000 := Int.mul_le_mul_of_nonneg_left h1 (by decide)
      have g4 : (2 ^ 63 - 1 : Int) / 1000 * 1000 ≤ 2 ^ 63 - 1 := by decide
      omega)
    have g5 : (1000 : Int) ≤ (2 ^ 63 - 1 : Int) / 1000 := by decide
    omega
  · rw [hz]
    have g2 : ps.length * n.toNat ≤ 1000 * 1000 := Nat.mul_le_mul h (by omega)
    exact decide_eq_false (by
      have g3 : 1000 * 1000 ≤ sizeLine := by decide
      omega)
def rowFlat (row : Row) : List P3 := (row.map fun pm => rep pm.2.toNat pm.1).flatten
theorem wd_app (ps qs : List P3) : (wd ps).cps ++ (wd qs).cps = (wd (ps ++ qs)).cps := by simp [wd]
theorem fold_wd : ∀ (pss : List (List P3)) (qs : List P3), (pss.map wd).foldl (fun acc p => acc ++ (Str.ofString "").cps ++ p.cps) (wd qs).cps = (wd (qs ++ pss.flatten)).cps
  | [], qs => by rw [List.flatten_nil, List.append_nil]; rfl
  | ps :: pss, qs => by
    have e0 : (Str.ofString "").cps = #[] := by decide +kernel
    rw [List.map_cons, List.foldl_cons, e0, Array.append_empty, wd_app, ← e0, fold_wd pss (qs ++ ps), List.flatten_cons, List.append_assoc]
theorem join_wd (pss : List (List P3)) : Txt.join ("" : Str) (pss.map wd) = wd pss.flatten := by
  cases pss with
  | nil => rfl
  | cons ps pss =>
    show (⟨(pss.map wd).foldl (fun acc p => acc ++ (Str.ofString "").cps ++ p.cps) (wd ps).cps⟩ : Str) = _
    rw [fold_wd]
    rfl
theorem go_join {K : PySem.W.Frag} {H : Hp} {Q : VK} {p : Addr} {pss : List (List P3)} (h : H p = some (.lst (pss.map fun ps => V.str (wd ps)))) (hn : pss.length ≤ 1000) (hl : ∀ ps ∈ pss, ps.length ≤ 16000) (q : Q (.str (wd pss.flatten)) H) :
    ∃ a p', ∃ ys : List Str, V.str ("" : Str) = .str a ∧ [V.ref p] = [.ref p'] ∧ (SqL K H p' (ys.map V.str) ∨ SqT K H p' (ys.map V.str)) ∧ (ys.map (·.length)).sum + ys.length * a.length ≤ 16777216 ∧ Q (.str (Txt.join a ys)) H := by
  refine ⟨"", p, pss.map wd, rfl, rfl, .inl (SqL.of (by rw [h, List.map_map]; rfl)), ?_, by rw [join_wd]; exact q⟩
  have e0 : Str.length ("" : Str) = 0 := by decide +kernel
  rw [e0, Nat.mul_zero, Nat.add_zero, List.map_map]
  have : ∀ (l : List (List P3)), (∀ ps ∈ l, ps.length ≤ 16000) → (l.map ((fun x : Str => x.length) ∘ wd)).sum ≤ l.length * 16000 := by
    intro l
    induction l with
    | nil => intro _; exact Nat.le_refl _
    | cons ps l ih =>
      intro h
      have h1 := ih fun x hx => h x (List.mem_cons_of_mem _ hx)
      have h2 := h ps List.mem_cons_self
      have h3 : (wd ps).length = ps.length := wd_size ps
      (rw [List.map_cons, List.sum_cons, List.length_cons, Nat.succ_mul])
      show (wd ps).length + _ ≤ _
      omega
  have h1 := this pss hl
  omega
end At

namespace At
/-- what is drawn: two sizes up to top + 1, the third up to its square and two more -/
def Sm (top : Int) (t : T3) : Prop := nat t.1 ≤ top + 1 ∧ nat t.2.1 ≤ top + 1 ∧ nat t.2.2 ≤ (top + 1) * (top + 1) + 2
/-- bounds that grow_fit with the turns -/
def Bd : Nat → Int
  | 0 => TOPB + 1
  | 1 => TOPB + 1
  | 2 => (TOPB + 1) * (TOPB + 1) + 2
  | n + 3 => 2 * Bd (n + 1) * Bd (n + 2)
theorem bd_pos : ∀ n, 2 ≤ Bd n
  | 0 => by decide +kernel
  | 1 => by decide +kernel
  | 2 => by decide +kernel
  | n + 3 => by
    have a := bd_pos (n + 1)
    have b := bd_pos (n + 2)
    show 2 ≤ 2 * Bd (n + 1) * Bd (n + 2)
    have := Int.mul_le_mul (show 2 ≤ 2 * Bd (n + 1) by omega) (show 1 ≤ Bd (n + 2) by omega) (by decide) (by omega)
    omega
theorem bd_le : ∀ n, Bd n ≤ Bd (n + 1)
  | 0 => by decide +kernel
  | 1 => by decide +kernel
  | n + 2 => by
    have a := bd_pos (n + 1)
    have b := bd_pos (n + 2)
    show Bd (n + 2) ≤ 2 * Bd (n + 1) * Bd (n + 2)
    have := Int.mul_le_mul_of_nonneg_right (show 1 ≤ 2 * Bd (n + 1) by omega) (show 0 ≤ Bd (n + 2) by omega)
    omega
/-- in some order: by which tie has the least bound, which the greatest -/
def Fit (n : Nat) (t : T3) : Prop := ∃ p q r : P3, p ≠ q ∧ q ≠ r ∧ p ≠ r ∧ nat (opp p t) ≤ Bd n ∧ nat (opp q t) ≤ Bd (n + 1) ∧ nat (opp r t) ≤ Bd (n + 2)
theorem push_fit {u v w a b c d : Int} (hu : nat u ≤ a) (hv : nat v ≤ b) (hw : nat w ≤ c) (h : c + a * b ≤ d) : nat (push u v w) ≤ d := by
  have h1 : nat (u * v) = nat u * nat v := by
    unfold nat
    by_cases h1 : u < 0 <;> by_cases h2 : v < 0
    · rw [if_pos h1, if_pos h2, if_neg (by have := Int.mul_pos_of_neg_of_neg h1 h2; omega), Int.neg_mul_neg]
    · by_cases h3 : v = 0
      · subst h3; simp
      · rw [if_pos h1, if_neg h2, if_pos (Int.mul_neg_of_neg_of_pos h1 (by omega)), Int.neg_mul]
    · by_cases h3 : u = 0
      · subst h3; simp
      · rw [if_neg h1, if_pos h2, if_pos (Int.mul_neg_of_pos_of_neg (by omega) h2), Int.mul_neg]
    · rw [if_neg h1, if_neg h2, if_neg (by have := Int.mul_nonneg (show 0 ≤ u by omega) (show 0 ≤ v by omega); omega)]
  have h2 : nat u * nat v ≤ a * b := Int.mul_le_mul hu hv (nat_nonneg v) (Int.le_trans (nat_nonneg u) hu)
  rw [← h1] at h2
  have h3 := nat_nonneg (u * v)
  unfold nat push at *
  split
  · split <;> split at h2 <;> split at hw <;> omega
  · split
    · split <;> split at h2 <;> split at hw <;> omega
    · omega
theorem opp_turn (p q : P3) (t : T3) (h : p ≠ q) : nat (opp q (turn p t)) = nat (opp q t) := by
  obtain ⟨x, y, z⟩ := t
  cases p <;> cases q <;> first | exact absurd rfl h | exact nat_neg _
theorem opp_self (p q r : P3) (t : T3) (h1 : p ≠ q) (h2 : q ≠ r) (h3 : p ≠ r) : ∃ u v, opp p (turn p t) = push u v (opp p t) ∧ ((nat u = nat (opp q t) ∧ nat v = nat (opp r t)) ∨ (nat u = nat (opp r t) ∧ nat v = nat (opp q t))) := by
  obtain ⟨x, y, z⟩ := t
  cases p <;> cases q <;> cases r <;> first
    | exact absurd rfl h1
    | exact absurd rfl h2
    | exact absurd rfl h3
    | exact ⟨_, _, rfl, .inl ⟨rfl, rfl⟩⟩
    | exact ⟨_, _, rfl, .inr ⟨rfl, rfl⟩⟩
theorem grow_fit {p q r : P3} {t : T3} {a b c d : Int} (h1 : p ≠ q) (h2 : q ≠ r) (h3 : p ≠ r) (hp : nat (opp p t) ≤ c) (hq : nat (opp q t) ≤ a) (hr : nat (opp r t) ≤ b) (h : c + a * b ≤ d) : nat (opp p (turn p t)) ≤ d := by
  obtain ⟨u, v, e, k⟩ := opp_self p q r t h1 h2 h3
  rw [e]
  rcases k with ⟨k1, k2⟩ | ⟨k1, k2⟩
  · exact push_fit (by rw [k1]; exact hq) (by rw [k2]; exact hr) hp h
  · exact push_fit (by rw [k1]; exact hr) (by rw [k2]; exact hq) hp (by rw [Int.mul_comm]; exact h)
theorem Fit.turn {n : Nat} {t : T3} (s : P3) (h : Fit n t) : Fit (n + 1) (turn s t) := by
  obtain ⟨p, q, r, n1, n2, n3, hp, hq, hr⟩ := h
  have b0 := bd_pos n
  have b1 := bd_pos (n + 1)
  have b2 := bd_pos (n + 2)
  have l0 := bd_le n
  have l1 : Bd (n + 1) ≤ Bd (n + 2) := bd_le (n + 1)
  have top : Bd (n + 1 + 2) = 2 * Bd (n + 1) * Bd (n + 2) := rfl
  have e : 2 * Bd (n + 1) * Bd (n + 2) = Bd (n + 1) * Bd (n + 2) + Bd (n + 1) * Bd (n + 2) := by rw [Int.mul_assoc]; omega
  have m1 : Bd (n + 2) ≤ Bd (n + 1) * Bd (n + 2) := by
    have := Int.mul_le_mul_of_nonneg_right (show 1 ≤ Bd (n + 1) by omega) (show 0 ≤ Bd (n + 2) by omega)
    omega
  have m2 : Bd n * Bd (n + 2) ≤ Bd (n + 1) * Bd (n + 2) := Int.mul_le_mul_of_nonneg_right l0 (by omega)
  have m3 : Bd n * Bd (n + 1) ≤ Bd (n + 1) * Bd (n + 2) := by
    rw [Int.mul_comm (Bd (n + 1))]
    exact Int.mul_le_mul (by omega) (Int.le_refl _) (by omega) (by omega)
  have third : s = p ∨ s = q ∨ s = r := by cases s <;> cases p <;> cases q <;> cases r <;> simp_all
  rcases third with rfl | rfl | rfl
  · exact ⟨q, r, s, n2, n3.symm, n1.symm, by rw [opp_turn s q t n1]; exact hq, by rw [opp_turn s r t n3]; exact hr, grow_fit n1 n2 n3 hp hq hr (by omega)⟩
  · exact ⟨p, r, s, n3, n2.symm, n1, by rw [opp_turn s p t n1.symm]; omega, by rw [opp_turn s r t n2]; exact hr, grow_fit n1.symm n3 n2 hq hp hr (by omega)⟩
  · exact ⟨p, q, s, n1, n2, n3, by rw [opp_turn s p t n3.symm]; omega, by rw [opp_turn s q t n2.symm]; exact Int.le_trans hq l1, grow_fit n3.symm n1 n2.symm hr hp hq (by omega)⟩
theorem Fit.walk : ∀ (ps : List P3) {n : Nat} {t : T3}, Fit n t → Fit (n + ps.length) (walk t ps)
  | [], _, _, h => h
  | p :: ps, n, t, h => by
    have := Fit.walk ps (h.turn p)
    rw [walk_cons, List.length_cons, show n + (ps.length + 1) = n + 1 + ps.length by omega]
    exact this
theorem bd_mono {m n : Nat} (h : m ≤ n) : Bd m ≤ Bd n := by
  induction h with
  | refl => exact Int.le_refl _
  | step _ ih => exact Int.le_trans ih (bd_le _)
theorem bd_gr : Bd 7 ≤ GR := by decide +kernel
theorem Fit.big {n : Nat} {t : T3} (h : Fit n t) (hn : n ≤ 5) : big t ≤ GR := by
  obtain ⟨p, q, r, n1, n2, n3, hp, hq, hr⟩ := h
  have a := Int.le_trans hp (Int.le_trans (bd_mono (show n ≤ 7 by omega)) bd_gr)
  have b := Int.le_trans hq (Int.le_trans (bd_mono (show n + 1 ≤ 7 by omega)) bd_gr)
  have c := Int.le_trans hr (Int.le_trans (bd_mono (show n + 2 ≤ 7 by omega)) bd_gr)
  obtain ⟨x, y, z⟩ := t
  refine big_le.mpr ?_
  cases p <;> cases q <;> cases r <;> first
    | exact absurd rfl n1
    | exact absurd rfl n2
    | exact absurd rfl n3
    | exact ⟨c, a, b⟩
    | exact ⟨b, a, c⟩
    | exact ⟨c, b, a⟩
    | exact ⟨a, b, c⟩
    | exact ⟨b, c, a⟩
    | exact ⟨a, c, b⟩
theorem Sm.fit {top : Int} {t : T3} (h0 : 1 ≤ top) (h1 : top ≤ TOPB) (h : Sm top t) : Fit 0 t := by
  obtain ⟨x, y, z⟩ := t
  obtain ⟨a, b, c⟩ := h
  have e := Int.mul_le_mul (show top + 1 ≤ TOPB + 1 by omega) (show top + 1 ≤ TOPB + 1 by omega) (by omega) (by decide)
  exact ⟨.c, .a, .b, by decide, by decide, by decide, Int.le_trans a (show top + 1 ≤ TOPB + 1 by omega), Int.le_trans b (show top + 1 ≤ TOPB + 1 by omega), Int.le_trans c (show (top + 1) * (top + 1) + 2 ≤ (TOPB + 1) * (TOPB + 1) + 2 by omega)⟩
end At

namespace At
/-! ### the same bounds for any greatest draw T -/
def BdG (T : Int) : Nat → Int
  | 0 => T + 1
  | 1 => T + 1
  | 2 => (T + 1) * (T + 1) + 2
  | n + 3 => 2 * BdG T (n + 1) * BdG T (n + 2)
theorem bg_pos {T : Int} (hT : 1 ≤ T) : ∀ n, 2 ≤ BdG T n
  | 0 => show 2 ≤ T + 1 by omega
  | 1 => show 2 ≤ T + 1 by omega
  | 2 => by
    show 2 ≤ (T + 1) * (T + 1) + 2
    have := Int.mul_nonneg (show 0 ≤ T + 1 by omega) (show 0 ≤ T + 1 by omega)
    omega
  | n + 3 => by
    have a := bg_pos hT (n + 1)
    have b := bg_pos hT (n + 2)
    show 2 ≤ 2 * BdG T (n + 1) * BdG T (n + 2)
    have := Int.mul_le_mul (show 2 ≤ 2 * BdG T (n + 1) by omega) (show 1 ≤ BdG T (n + 2) by omega) (by decide) (by omega)
    omega
theorem bg_le {T : Int} (hT : 1 ≤ T) : ∀ n, BdG T n ≤ BdG T (n + 1)
  | 0 => Int.le_refl _
  | 1 => by
    show T + 1 ≤ (T + 1) * (T + 1) + 2
    have := Int.mul_le_mul_of_nonneg_right (show 1 ≤ T + 1 by omega) (show 0 ≤ T + 1 by omega)
    omega
  | n + 2 => by
    have a := bg_pos hT (n + 1)
    have b := bg_pos hT (n + 2)
    show BdG T (n + 2) ≤ 2 * BdG T (n + 1) * BdG T (n + 2)
    have := Int.mul_le_mul_of_nonneg_right (show 1 ≤ 2 * BdG T (n + 1) by omega) (show 0 ≤ BdG T (n + 2) by omega)
    omega
theorem bg_mono {T : Int} (hT : 1 ≤ T) {m n : Nat} (h : m ≤ n) : BdG T m ≤ BdG T n := by
  induction h with
  | refl => exact Int.le_refl _
  | step _ ih => exact Int.le_trans ih (bg_le hT _)
theorem bg_top {T U : Int} (hT : 1 ≤ T) (h : T ≤ U) : ∀ n, BdG T n ≤ BdG U n
  | 0 => show T + 1 ≤ U + 1 by omega
  | 1 => show T + 1 ≤ U + 1 by omega
  | 2 => by
    show (T + 1) * (T + 1) + 2 ≤ (U + 1) * (U + 1) + 2
    have := Int.mul_le_mul (show T + 1 ≤ U + 1 by omega) (show T + 1 ≤ U + 1 by omega) (by omega) (by omega)
    omega
  | n + 3 => by
    have a := bg_top hT h (n + 1)
    have b := bg_top hT h (n + 2)
    have p := bg_pos hT (n + 1)
    have q := bg_pos hT (n + 2)
    exact Int.mul_le_mul (by omega) b (by omega) (by omega)
def FitG (T : Int) (n : Nat) (t : T3) : Prop := ∃ p q r : P3, p ≠ q ∧ q ≠ r ∧ p ≠ r ∧ nat (opp p t) ≤ BdG T n ∧ nat (opp q t) ≤ BdG T (n + 1) ∧ nat (opp r t) ≤ BdG T (n + 2)
theorem FitG.turn {T : Int} (hT : 1 ≤ T) {n : Nat} {t : T3} (s : P3) (h : FitG T n t) : FitG T (n + 1) (turn s t) := by
  obtain ⟨p, q, r, n1, n2, n3, hp, hq, hr⟩ := h
  have b0 := bg_pos hT n
  have b1 := bg_pos hT (n + 1)
  have b2 := bg_pos hT (n + 2)
  have l0 := bg_le hT n
  have l1 : BdG T (n + 1) ≤ BdG T (n + 2) := bg_le hT (n + 1)
  have top : BdG T (n + 1 + 2) = 2 * BdG T (n + 1) * BdG T (n + 2) := rfl
  have e : 2 * BdG T (n + 1) * BdG T (n + 2) = BdG T (n + 1) * BdG T (n + 2) + BdG T (n + 1) * BdG T (n + 2) := by rw [Int.mul_assoc]; omega
  have m1 : BdG T (n + 2) ≤ BdG T (n + 1) * BdG T (n + 2) := by
    have := Int.mul_le_mul_of_nonneg_right (show 1 ≤ BdG T (n + 1) by omega) (show 0 ≤ BdG T (n + 2) by omega)
    omega
  have m2 : BdG T n * BdG T (n + 2) ≤ BdG T (n + 1) * BdG T (n + 2) := Int.mul_le_mul_of_nonneg_right l0 (by omega)
  have m3 : BdG T n * BdG T (n + 1) ≤ BdG T (n + 1) * BdG T (n + 2) := by
    rw [Int.mul_comm (BdG T (n + 1))]
    exact Int.mul_le_mul (by omega) (Int.le_refl _) (by omega) (by omega)
  have third : s = p ∨ s = q ∨ s = r := by cases s <;> cases p <;> cases q <;> cases r <;> simp_all
  rcases third with rfl | rfl | rfl
  · exact ⟨q, r, s, n2, n3.symm, n1.symm, by rw [opp_turn s q t n1]; exact hq, by rw [opp_turn s r t n3]; exact hr, grow_fit n1 n2 n3 hp hq hr (by omega)⟩
  · exact ⟨p, r, s, n3, n2.symm, n1, by rw [opp_turn s p t n1.symm]; omega, by rw [opp_turn s r t n2]; exact hr, grow_fit n1.symm n3 n2 hq hp hr (by omega)⟩
  · exact ⟨p, q, s, n1, n2, n3, by rw [opp_turn s p t n3.symm]; omega, by rw [opp_turn s q t n2.symm]; exact Int.le_trans hq l1, grow_fit n3.symm n1 n2.symm hr hp hq (by omega)⟩
theorem FitG.walk {T : Int} (hT : 1 ≤ T) : ∀ (ps : List P3) {n : Nat} {t : T3}, FitG T n t → FitG T (n + ps.length) (walk t ps)
  | [], _, _, h => h
  | p :: ps, n, t, h => by
    have := FitG.walk hT ps (h.turn hT p)
    rw [walk_cons, List.length_cons, show n + (ps.length + 1) = n + 1 + ps.length by omega]
    exact this
theorem FitG.le {T U : Int} (hT : 1 ≤ T) (hU : T ≤ U) {m n : Nat} {t : T3} (h : FitG T m t) (hn : m ≤ n) : big t ≤ BdG U (n + 2) := by
  obtain ⟨p, q, r, n1, n2, n3, hp, hq, hr⟩ := h
  have up : ∀ k, k ≤ n + 2 → BdG T k ≤ BdG U (n + 2) := fun k hk => Int.le_trans (bg_mono hT hk) (bg_top hT hU _)
  have a := Int.le_trans hp (up m (by omega))
  have b := Int.le_trans hq (up (m + 1) (by omega))
  have c := Int.le_trans hr (up (m + 2) (by omega))
  obtain ⟨x, y, z⟩ := t
  refine big_le.mpr ?_
  cases p <;> cases q <;> cases r <;> first
    | exact absurd rfl n1
    | exact absurd rfl n2
    | exact absurd rfl n3
    | exact ⟨c, a, b⟩
    | exact ⟨b, a, c⟩
    | exact ⟨c, b, a⟩
    | exact ⟨a, b, c⟩
    | exact ⟨b, c, a⟩
    | exact ⟨a, c, b⟩
theorem bg6 : BdG 6 12 ≤ GR := by decide +kernel
theorem Sm.fitG {top : Int} {t : T3} (h0 : 1 ≤ top) (h : Sm top t) : FitG top 0 t := by
  obtain ⟨x, y, z⟩ := t
  obtain ⟨a, b, c⟩ := h
  exact ⟨.c, .a, .b, by decide, by decide, by decide, a, b, c⟩
end At

namespace At
open L2 PyProof.Rows PySem.Spec PySem
/-! ### what is drawn: letters, orders -/
def chP (c : Nat) : P3 := if c = 97 then .a else if c = 98 then .b else .c
theorem chP_ch (p : P3) : chP p.ch = p := by cases p <;> rfl
theorem occ (p : P3) : ∃ rest, Builtin.Str.occurrences ("abc" : Str) ⟨#[p.ch]⟩ 0 (Str.length ("abc" : Str)) 1 = p.i.toNat :: rest := by
  cases p
  · exact ⟨[], by decide +kernel⟩
  · exact ⟨[], by decide +kernel⟩
  · exact ⟨[], by decide +kernel⟩
theorem go_yes {σ : L2.St} {H : Hp} {QT : Bool → Hp → Prop} (h : QT true H) : tYes σ H QT := h
theorem ExtC.mut {c D : Addr} {H H' : Hp} {o : HO} (e : ExtC c H H') (n : H D = none) : ExtC c H (upd H' D o) := fun a u na h => by
  have : a ≠ D := fun z => by rw [z, n] at h; cases h
  rw [upd_ne this]
  exact e a u na h
theorem Cup.past {c D : Addr} {H : Hp} {o : HO} (h : Cup H c) (n : D ≠ c) : Cup (upd H D o) c := by
  obtain ⟨x, d, h1, h2⟩ := h
  exact ⟨x, d, by rw [upd_ne n.symm]; exact h1, h2⟩
theorem abc_of {x : V} (h : x ∈ [V.str ("a" : Str), V.str ("b" : Str), V.str ("c" : Str)]) : ∃ s : P3, x = .str (wd [s]) := by
  simp only [List.mem_cons, List.not_mem_nil, or_false] at h
  rcases h with rfl | rfl | rfl
  · exact ⟨.a, rfl⟩
  · exact ⟨.b, rfl⟩
  · exact ⟨.c, rfl⟩
theorem ones (ps : List P3) : (ps.map fun s => [s]).flatten = ps := by
  induction ps with
  | nil => rfl
  | cons p ps ih => rw [List.map_cons, List.flatten_cons, ih]; rfl
/-- the three orders that are drawn -/
def Ord (ns : List P3) : Prop := ns = [.a, .b, .c] ∨ ns = [.b, .c, .a] ∨ ns = [.c, .a, .b]
theorem ord_of {x : V} (h : x ∈ [V.str ("abc" : Str), V.str ("bca" : Str), V.str ("cab" : Str)]) : ∃ ns, x = .str (wd ns) ∧ Ord ns := by
  simp only [List.mem_cons, List.not_mem_nil, or_false] at h
  rcases h with rfl | rfl | rfl
  · exact ⟨[.a, .b, .c], rfl, .inl rfl⟩
  · exact ⟨[.b, .c, .a], rfl, .inr (.inl rfl)⟩
  · exact ⟨[.c, .a, .b], rfl, .inr (.inr rfl)⟩
theorem ord_fitG {ns : List P3} {top : Int} {t : T3} (o : Ord ns) (sm : Sm top t) : ∃ u : T3, FitG top 0 u ∧ (wd ns).cps.toList.map (fun c => V.int (go (chP c) t)) = tv u := by
  obtain ⟨x, y, z⟩ := t
  obtain ⟨a, b, c⟩ := sm
  rcases o with rfl | rfl | rfl
  · exact ⟨(x, y, z), ⟨.c, .a, .b, by decide, by decide, by decide, a, b, c⟩, rfl⟩
  · exact ⟨(y, z, x), ⟨.c, .b, .a, by decide, by decide, by decide, b, a, c⟩, rfl⟩
  · exact ⟨(z, x, y), ⟨.a, .b, .c, by decide, by decide, by decide, a, b, c⟩, rfl⟩
theorem fitG_huge {top : Int} {n : Nat} {t : T3} (h : FitG top n t) (h1 : 1 ≤ top) (h2 : top ≤ TOPB) (hn : n ≤ 5) : big t ≤ GR :=
  Int.le_trans (h.le h1 h2 hn) (by decide +kernel)
end At

namespace At
open L2 PyProof.Rows PySem.Spec PySem
/-! ### rows of turns, letter by letter -/
theorem rowFlat_cons (pm : List P3 × Int) (row : Row) : rowFlat (pm :: row) = rep pm.2.toNat pm.1 ++ rowFlat row := rfl
theorem rowFlat_app (r s : Row) : rowFlat (r ++ s) = rowFlat r ++ rowFlat s := by
  unfold rowFlat
  rw [List.map_append, List.flatten_append]
theorem rowWalk_flat : ∀ (row : Row) (t : T3), rowWalk t row = walk t (rowFlat row)
  | [], _ => rfl
  | pm :: row, t => by
    rw [rowFlat_cons, walk_append, walk_rep, ← rowWalk_flat row]
    rfl
theorem rowLen_flat : ∀ (row : Row), (∀ pm ∈ row, 0 ≤ pm.2) → rowLen row = ((rowFlat row).length : Nat)
  | [], _ => rfl
  | pm :: row, h => by
    have ih := rowLen_flat row fun q hq => h q (List.mem_cons_of_mem _ hq)
    have h0 := h pm List.mem_cons_self
    rw [rowFlat_cons, List.length_append, rep_length]
    show (pm.1.length : Int) * pm.2 + rowLen row = _
    rw [ih]
    obtain ⟨n, e⟩ : ∃ n : Nat, pm.2 = (n : Int) := ⟨pm.2.toNat, by omega⟩
    rw [e, Int.toNat_natCast, Int.natCast_add, Int.natCast_mul, Int.mul_comm]
def backPair (pm : List P3 × Int) : List P3 × Int := (pm.1.reverse, pm.2)
def backRow (row : Row) : Row := row.reverse.map backPair
theorem rep_rev (ps : List P3) : ∀ n : Nat, rep n ps.reverse = (rep n ps).reverse
  | 0 => rfl
  | n + 1 => by rw [rep_succ, rep_succ', List.reverse_append, rep_rev ps n]
theorem flat_back : ∀ (row : Row), rowFlat (backRow row) = (rowFlat row).reverse
  | [] => rfl
  | pm :: row => by
    have e : backRow (pm :: row) = backRow row ++ [backPair pm] := by
      unfold backRow
      rw [List.reverse_cons, List.map_append]
      rfl
    rw [e, rowFlat_app, flat_back row, rowFlat_cons pm row, List.reverse_append, ← rep_rev]
    show _ ++ (rep pm.2.toNat pm.1.reverse ++ []) = _
    rw [List.append_nil]
theorem flat_take (row : Row) (i : Nat) : ∃ j, j ≤ (rowFlat row).length ∧ rowFlat (row.take i) = (rowFlat row).take j := by
  have e : rowFlat row = rowFlat (row.take i) ++ rowFlat (row.drop i) := by rw [← rowFlat_app, List.take_append_drop]
  refine ⟨(rowFlat (row.take i)).length, ?_, ?_⟩
  · rw [e, List.length_append]; omega
  · rw [e, List.take_left]
theorem walk_back_part (L : List P3) (t : T3) (j : Nat) : walk (walk t L) (L.reverse.take j) = walk t (L.take (L.length - j)) := by
  rw [List.take_reverse]
  have e : walk t L = walk (walk t (L.take (L.length - j))) (L.drop (L.length - j)) := by rw [← walk_append, List.take_append_drop]
  rw [e, walk_back]
theorem rowWalk_back (row : Row) (t : T3) : rowWalk (rowWalk t row) (backRow row) = t := by
  rw [rowWalk_flat, rowWalk_flat, flat_back, walk_back]
/-- all on the way along a row, or back along it -/
theorem row_parts {row : Row} {t : T3} {P : T3 → Prop} (h : ∀ j, j ≤ (rowFlat row).length → P (walk t ((rowFlat row).take j))) (i : Nat) : P (rowWalk t (row.take i)) := by
  obtain ⟨j, hj, e⟩ := flat_take row i
  rw [rowWalk_flat, e]
  exact h j hj
theorem row_backs {row : Row} {t : T3} {P : T3 → Prop} (h : ∀ j, j ≤ (rowFlat row).length → P (walk t ((rowFlat row).take j))) (i : Nat) : P (rowWalk (rowWalk t row) ((backRow row).take i)) := by
  obtain ⟨j, hj, e⟩ := flat_take (backRow row) i
  rw [rowWalk_flat ((backRow row).take i), e, flat_back, rowWalk_flat row, walk_back_part]
  exact h _ (by omega)
theorem flat_len {k : Nat} : ∀ (row : Row), (∀ pm ∈ row, pm.1.length * pm.2.toNat ≤ k) → (rowFlat row).length ≤ row.length * k
  | [], _ => Nat.zero_le _
  | pm :: row, h => by
    have ih := flat_len row fun q hq => h q (List.mem_cons_of_mem _ hq)
    have h0 := h pm List.mem_cons_self
    rw [rowFlat_cons, List.length_append, rep_length, List.length_cons, Nat.succ_mul, Nat.mul_comm]
    omega
theorem rev_wd (ps : List P3) : (⟨(wd ps).cps.toList.reverse.toArray⟩ : Str) = wd ps.reverse := by
  simp [wd, List.map_reverse]
theorem PairsAt.keep {H H' : Hp} (k : ∀ a xs, H a = some (.tup xs) → H' a = some (.tup xs)) : ∀ {rs : List Addr} {row : Row}, PairsAt H rs row → PairsAt H' rs row
  | [], [], _ => trivial
  | _ :: _, _ :: _, h => ⟨k _ _ h.1, PairsAt.keep k h.2⟩
  | [], _ :: _, h => h
  | _ :: _, [], h => h
theorem PairsAt.snoc {H : Hp} {r : Addr} {pm : List P3 × Int} (hr : PairAt H r pm) : ∀ {rs : List Addr} {row : Row}, PairsAt H rs row → PairsAt H (rs ++ [r]) (row ++ [pm])
  | [], [], _ => ⟨hr, trivial⟩
  | _ :: _, _ :: _, h => ⟨h.1, PairsAt.snoc hr h.2⟩
  | [], _ :: _, h => h.elim
  | _ :: _, [], h => h.elim
theorem PairsAt.take {H : Hp} : ∀ (n : Nat) {rs : List Addr} {row : Row}, PairsAt H rs row → PairsAt H (rs.take n) (row.take n)
  | 0, _, _, _ => trivial
  | n + 1, [], [], _ => trivial
  | n + 1, _ :: _, _ :: _, h => ⟨h.1, PairsAt.take n h.2⟩
  | n + 1, [], _ :: _, h => h.elim
  | n + 1, _ :: _, [], h => h.elim
theorem PairsAt.rev {H : Hp} : ∀ {rs : List Addr} {row : Row}, PairsAt H rs row → PairsAt H rs.reverse row.reverse
  | [], [], _ => trivial
  | r :: rs, pm :: row, h => by
    (rw [List.reverse_cons, List.reverse_cons])
    exact PairsAt.snoc h.1 (PairsAt.rev h.2)
  | [], _ :: _, h => h.elim
  | _ :: _, [], h => h.elim
/-- "".join of words, its answer told -/
theorem join_is (K : PySem.W.Frag) {H : Hp} {p : Addr} {pss : List (List P3)} (h : H p = some (.lst (pss.map fun ps => V.str (wd ps)))) (hn : pss.length ≤ 1000) (hl : ∀ ps ∈ pss, ps.length ≤ 16000) :
    ∃ a p', ∃ ys : List Str, V.str ("" : Str) = .str a ∧ [V.ref p] = [.ref p'] ∧ (SqL K H p' (ys.map V.str) ∨ SqT K H p' (ys.map V.str)) ∧ (ys.map (·.length)).sum + ys.length * a.length ≤ 16777216 ∧ Txt.join a ys = wd pss.flatten := by
  obtain ⟨a, p', ys, f1, f2, f3, f4, f5⟩ := go_join (K := K) (Q := fun v _ => v = .str (wd pss.flatten)) h hn hl rfl
  exact ⟨a, p', ys, f1, f2, f3, f4, V.str.inj f5⟩
theorem PairsAt.past {H : Hp} {l : Addr} {xs ys : List V} {rs : List Addr} {row : Row} (hl : H l = some (.lst xs)) (h : PairsAt H rs row) : PairsAt (upd H l (.lst ys)) rs row :=
  h.keep fun a zs e => by
    rw [upd_ne (fun z => by rw [z, hl] at e; cases e)]
    exact e
/-- what stands for the pair at a place of a row -/
def atRow (row : Row) (f : List P3 × Int → V) (i : Nat) : V := match row[i]? with
  | some pm => f pm
  | none => .non
theorem atRow_at {row : Row} {f : List P3 × Int → V} {i : Nat} {pm : List P3 × Int} (h : row[i]? = some pm) : atRow row f i = f pm := by
  unfold atRow
  rw [h]
theorem range_map (row : Row) (n : Nat) (e : n = row.length) (f : List P3 × Int → V) : (List.range n).map (atRow row f) = row.map f := by
  subst e
  (refine List.ext_getElem (by simp) fun i h1 h2 => ?_)
  have hi : i < row.length := by simpa using h2
  rw [List.getElem_map, List.getElem_map, List.getElem_range, atRow_at (List.getElem?_eq_getElem hi)]
end At

namespace At
open L2 PyProof.Rows PySem.Spec PySem
/-! ### triples compared -/
def dat3 (t : T3) : PyData := .tuple [.int t.1, .int t.2.1, .int t.2.2]
theorem dp3 {K : PySem.W.Frag} {H : Hp} {p : Addr} {t : T3} (h : H p = some (.tup (tv t))) : Dp K H (.ref p) (dat3 t) := .tup (SqT.of h) (dp_ints [t.1, t.2.1, t.2.2])
theorem eqv1 (s : T3) : PyData.eqv (dat3 s) (dat3 s) = true := by simp [PyData.eqv, PyData.eqvAll, dat3]
theorem shaped1 (s : T3) : SeqAt.shaped (dat3 s) = true := by
  unfold SeqAt.shaped dat3
  simp only [PyData.canLay0, PyData.depth, PyData.canLayAll0, PyData.depthAll]
  rfl
theorem shaped3 (s t v : T3) : SeqAt.shaped (.list [dat3 s, dat3 t, dat3 v]) = true := by
  unfold SeqAt.shaped dat3
  simp only [PyData.canLay0, PyData.depth, PyData.canLayAll0, PyData.depthAll]
  rfl
theorem eqv3 (s t v : T3) : PyData.eqv (.list [dat3 s, dat3 t, dat3 v]) (.list [dat3 s, dat3 t, dat3 v]) = true := by simp [PyData.eqv, PyData.eqvAll, dat3]
theorem dpl3 {K : PySem.W.Frag} {H : Hp} {l p q r : Addr} {s t v : T3} (h : H l = some (.lst [.ref p, .ref q, .ref r])) (hp : H p = some (.tup (tv s))) (hq : H q = some (.tup (tv t))) (hr : H r = some (.tup (tv v))) : Dp K H (.ref l) (.list [dat3 s, dat3 t, dat3 v]) := .lst (SqL.of h) (.cons (dp3 hp) (.cons (dp3 hq) (.cons (dp3 hr) .nil)))
theorem turn_twice (p : P3) (t : T3) : turn p (turn p t) = t := walk_back [p] t
theorem twice_wd (p : P3) : ((⟨#[p.ch]⟩ : Str) ++ (⟨#[p.ch]⟩ : Str)) = wd [p, p] := by cases p <;> rfl
theorem cut_one {xs : List V} (h : 1 ≤ xs.length) : cutV xs none (some 1) = xs.take 1 := by
  unfold cutV
  show (xs.drop 0).take (min (1 : Int).toNat xs.length - 0) = _
  rw [List.drop_zero, show min (1 : Int).toNat xs.length - 0 = 1 from by
    show min 1 xs.length - 0 = 1
    omega]
theorem cut_part {n : Nat} (h : 2 ≤ n) : ¬ (HT.sIx n 0 none = 0 ∧ HT.sIx n n (some 1) = n) := by
  rintro ⟨_, e⟩
  have e : min (1 : Int).toNat n = n := e
  have : min 1 n = n := e
  omega
theorem mt2 {m : Int} (h : m ≤ 2) : m ≤ MT := Int.le_trans h (by decide +kernel)
theorem rowOk_small {row : Row} (hl : row.length ≤ 200) (h : ∀ pm ∈ row, 1 ≤ pm.1.length ∧ pm.1.length ≤ 4 ∧ 0 ≤ pm.2 ∧ pm.2 ≤ 2) : RowOk row :=
  ⟨hl, fun pm hpm => by
    obtain ⟨a, b, c, d⟩ := h pm hpm
    exact ⟨a, by omega, c, mt2 d⟩⟩
theorem backRow_len (row : Row) : (backRow row).length = row.length := by
  unfold backRow
  rw [List.length_map, List.length_reverse]
theorem rowOk_back {row : Row} (h : RowOk row) : RowOk (backRow row) :=
  ⟨by rw [backRow_len]; exact h.1, fun pm hpm => by
    obtain ⟨qm, hq, rfl⟩ := List.mem_map.mp hpm
    obtain ⟨a, b, c, d⟩ := h.2 qm (List.mem_reverse.mp hq)
    exact ⟨by show 1 ≤ qm.1.reverse.length; rw [List.length_reverse]; exact a, by show qm.1.reverse.length ≤ 12; rw [List.length_reverse]; exact b, c, d⟩⟩
theorem flat8 {row : Row} (h : ∀ pm ∈ row, 1 ≤ pm.1.length ∧ pm.1.length ≤ 4 ∧ 0 ≤ pm.2 ∧ pm.2 ≤ 2) : (rowFlat row).length ≤ row.length * 8 := flat_len row fun pm hpm => by
  obtain ⟨_, a, _, b⟩ := h pm hpm
  exact Nat.mul_le_mul a (show pm.2.toNat ≤ 2 by omega)
theorem le60 {ps : List P3} (h : ps.length ≤ 60000) : (wd ps).length ≤ sizeLine := by
  rw [show (wd ps).length = ps.length from wd_size ps, sizeLine_eq]
  omega
end At

namespace At
open L2 PyProof.Rows PySem.Spec PySem
/-! ### the law at its end -/
theorem sqL_ext {K : PySem.W.Frag} {H H' : Hp} {a : Addr} {xs : List V} (h : SqL K H a xs) (e : Ext H H') : SqL K H' a xs := by
  rcases h with h | h
  · refine .inl ?_
    rcases h with h | ⟨o, h⟩
    · exact .inl (e _ _ h)
    · exact .inr ⟨o, e _ _ h⟩
  · exact .inr h
theorem ext_cup {p : Addr} {H H2 H3 : Hp} (n : H p = none) (e : Ext H H2) (f : ExtC p H2 H3) : Ext H H3 := fun b o h => f b o (fun z => by rw [z, n] at h; cases h) (e b o h)
theorem most2 (L : Int) : 2 ≤ if (if 6 < L then 6 else L) > 2 then (if 6 < L then 6 else L) else 2 := by split <;> split <;> omega
theorem most6 (L : Int) : (if (if 6 < L then 6 else L) > 2 then (if 6 < L then 6 else L) else 2) ≤ 6 := by split <;> split <;> omega
theorem all_true (n : Nat) : ((List.range n).map fun _ => true).all id = true := by simp
end At

namespace At
open L2 PyProof.Rows PySem.Spec PySem
/-! ### words put together -/
theorem app_wd (ps qs : List P3) : (wd ps ++ wd qs : Str) = wd (ps ++ qs) := by
  show (⟨(wd ps).cps ++ (wd qs).cps⟩ : Str) = _
  rw [wd_app]
theorem adds {ps qs : List P3} (h : ps.length + qs.length ≤ 1000) : (wd ps).length + (wd qs).length ≤ sizeLine := by
  rw [show (wd ps).length = ps.length from wd_size ps, show (wd qs).length = qs.length from wd_size qs, sizeLine_eq]
  omega
theorem empty_wd : ("" : Str) = wd [] := rfl
theorem wd_nil {ps : List P3} (h : wd ps = ("" : Str)) : ps = [] := by
  have : (wd ps).cps.size = 0 := by rw [h]; rfl
  rw [wd_size] at this
  exact List.length_eq_zero_iff.mp this
/-- a word round one place, so often -/
theorem many_conj (w : List P3) (p : P3) (n : Nat) (t : T3) : many n (w ++ [p] ++ w.reverse) t = if n % 2 = 1 then walk t (w ++ [p] ++ w.reverse) else t := by
  rw [many_around, many_even]
  split
  · next h =>
    rw [h, walk_append, walk_append]
    rfl
  · next h =>
    have : n % 2 = 0 := by omega
    rw [this]
    show walk (walk t w) w.reverse = t
    rw [walk_back]
theorem many_id {ps : List P3} (h : ∀ t, walk t ps = t) : ∀ (n : Nat) (t : T3), many n ps t = t
  | 0, _ => rfl
  | n + 1, t => by
    rw [many_add, many_id h n]
    show walk t ps = t
    exact h t
theorem many_round_trip (w : List P3) (n : Nat) (t : T3) : many n (w ++ w.reverse) t = t := many_id (fun t => by rw [walk_append, walk_back]) n t
theorem walk_double (p : P3) (t : T3) : walk t [p, p] = t := turn_twice p t
theorem many_doubled (w : List P3) (p : P3) (n : Nat) (t : T3) : many n (w ++ [p] ++ [p]) t = many n w t := many_congr (fun t => by
  rw [List.append_assoc, walk_append]
  exact walk_double p _) n t
theorem many_back (w : List P3) (n : Nat) (t : T3) : many n w.reverse (many n w t) = t := by
  rw [← walk_rep, ← walk_rep, rep_rev, walk_back]
theorem fmod2 {m : Int} (h : 0 ≤ m) : m.fmod 2 = 1 ↔ m.toNat % 2 = 1 := by
  (rw [Int.fmod_eq_emod_of_nonneg _ (by decide)])
  omega
/-- a join of drawn letters: at D2 the letters so far -/
theorem letters_is (K : PySem.W.Frag) {H : Hp} {D : Addr} {pss : List P3} (h : H D = some (.lst (pss.map fun s => V.str (wd [s])))) (hn : pss.length ≤ 1000) :
    ∃ a p', ∃ ys : List Str, V.str ("" : Str) = .str a ∧ [V.ref D] = [.ref p'] ∧ (SqL K H p' (ys.map V.str) ∨ SqT K H p' (ys.map V.str)) ∧ (ys.map (·.length)).sum + ys.length * a.length ≤ 16777216 ∧ Txt.join a ys = wd pss := by
  have hJ : H D = some (.lst ((pss.map fun s => [s]).map fun ps => V.str (wd ps))) := by
    rw [h, List.map_map]
    rfl
  obtain ⟨a', p', ys, f1, f2, f3, f4, f5⟩ := join_is K hJ (by rw [List.length_map]; omega) (fun ps hps => by
    obtain ⟨s, _, rfl⟩ := List.mem_map.mp hps
    exact Nat.le_of_ble_eq_true rfl)
  exact ⟨a', p', ys, f1, f2, f3, f4, by rw [f5, ones]⟩
end At

namespace At
open L2 PyProof.Rows PySem.Spec PySem
/-! ### standings whose words stay small -/
def Sml (t : T3) (ps : List P3) : Prop :=
  (∃ k s : Int, 2 ≤ k ∧ k ≤ 31 ∧ 0 ≤ s ∧ s ≤ 4 ∧ t = (2, k, k + s) ∧ ps = [.a, .b]) ∨ (∃ k : Int, 2 ≤ k ∧ k ≤ 31 ∧ t = (1, k, -5) ∧ ps = [.b, .a]) ∨ (t = (1, 1, 0) ∧ ps = [.a, .b, .c]) ∨ (∃ k : Int, 2 ≤ k ∧ k ≤ 31 ∧ t = (0, k, 3) ∧ ps = [.a, .b])
theorem Sml.two {t : T3} {ps : List P3} (h : Sml t ps) : 1 ≤ ps.length ∧ ps.length ≤ 3 := by
  rcases h with ⟨_, _, _, _, _, _, _, rfl⟩ | ⟨_, _, _, _, rfl⟩ | ⟨_, rfl⟩ | ⟨_, _, _, _, rfl⟩ <;> decide
theorem push_is {u v w r : Int} (h1 : 0 < u → 0 < v → w - u * v = r) (h2 : u < 0 → v < 0 → w + u * v = r) (h3 : ¬ (0 < u ∧ 0 < v) → ¬ (u < 0 ∧ v < 0) → w = r) : push u v w = r := by
  unfold push
  split
  · next h => exact h1 h.1 h.2
  · next h => split
              · next g => exact h2 g.1 g.2
              · next g => exact h3 h g
theorem st_ba (x y z : Int) : walk (x, y, z) [.b, .a] = (x, push (push x y z) (-x) (-y), -push x y z) := by
  show (-(-x), push (push x y z) (-x) (-y), -push x y z) = _
  rw [Int.neg_neg]
theorem ba {x y z u v w : Int} (h1 : push x y z = u) (h2 : push u (-x) (-y) = v) (h3 : -u = w) : walk (x, y, z) [.b, .a] = (x, v, w) := by rw [st_ba, h1, h2, h3]
theorem five {k : Int} (h : 2 ≤ k) : walk (1, k, -5) [.b, .a] = (1, 5, 5 + k) ∧ walk (1, 5, 5 + k) [.b, .a] = (1, -5, -k) ∧ walk (1, -5, -k) [.b, .a] = (1, 5 + k, k) ∧ walk (1, 5 + k, k) [.b, .a] = (1, -k, 5) ∧ walk (1, -k, 5) [.b, .a] = (1, k, -5) :=
  ⟨ba (u := -5 - k) (v := 5) (push_is (by omega) (by omega) (by omega)) (push_is (by omega) (by omega) (by omega)) (by omega),
   ba (u := k) (v := -5) (push_is (by omega) (by omega) (by omega)) (push_is (by omega) (by omega) (by omega)) (by omega),
   ba (u := -k) (v := 5 + k) (push_is (by omega) (by omega) (by omega)) (push_is (by omega) (by omega) (by omega)) (by omega),
   ba (u := -5) (v := -k) (push_is (by omega) (by omega) (by omega)) (push_is (by omega) (by omega) (by omega)) (by omega),
   ba (u := 5) (v := k) (push_is (by omega) (by omega) (by omega)) (push_is (by omega) (by omega) (by omega)) (by omega)⟩
theorem ab {x y z u v w : Int} (h1 : push z x y = u) (h2 : push (-x) u (-z) = v) (h3 : -u = w) : walk (x, y, z) [.a, .b] = (x, w, v) := by
  show (-(-x), -push z x y, push (-x) (push z x y) (-z)) = _
  rw [Int.neg_neg, h1, h2, h3]
theorem zero_ab {k : Int} : walk (0, k, 3) [.a, .b] = (0, -k, -3) ∧ walk (0, -k, -3) [.a, .b] = (0, k, 3) :=
  ⟨ab (u := k) (v := -3) (push_is (by omega) (by omega) (by omega)) (push_is (by omega) (by omega) (by omega)) rfl, ab (u := -k) (v := 3) (push_is (by omega) (by omega) (by omega)) (push_is (by omega) (by omega) (by omega)) (by omega)⟩
/-- what comes round again is as small as one round -/
theorem round_big {ps : List P3} {t : T3} {m : Nat} {B : Int} (hm : 0 < m) (h : many m ps t = t) (hb : ∀ i, i < m → big (many i ps t) ≤ B) (n : Nat) : big (many n ps t) ≤ B := by
  rw [many_round ps m t h n]
  exact hb _ (Nat.mod_lt _ hm)
theorem nat_abs {x B : Int} (h1 : -B ≤ x) (h2 : x ≤ B) : nat x ≤ B := by unfold nat; split <;> omega
theorem Sml.big {t : T3} {ps : List P3} (h : Sml t ps) (n : Nat) (hn : (n : Int) ≤ 4 * 10 ^ 30) : big (many n ps t) ≤ 10 ^ 32 := by
  rcases h with ⟨k, s, k0, k1, s0, s1, rfl, rfl⟩ | ⟨k, k0, k1, rfl, rfl⟩ | ⟨rfl, rfl⟩ | ⟨k, k0, k1, rfl, rfl⟩
  · have m : ∀ j : Nat, 0 ≤ (j : Int) * s := fun j => Int.mul_nonneg (by omega) s0
    obtain ⟨e1, e2, e3⟩ := even_many (p := .a) (q := .b) (r := .c) (by decide) (by decide) (by decide) (s := 1) (.inl rfl) n (2, k, k + s) k (k + s) rfl (show k = 1 * k by omega) (show k + s = 1 * (k + s) by omega) (fun j _ => by
      have e : k + s - k = s := by omega
      rw [e]
      have := m j
      have e4 : 2 * (j : Int) * s = 2 * ((j : Int) * s) := by rw [Int.mul_assoc]
      have e5 : (2 * (j : Int) + 1) * s = 2 * ((j : Int) * s) + s := by rw [Int.add_mul, Int.mul_assoc]; omega
      rw [e4, e5]
      omega)
    have e : k + s - k = s := by omega
    rw [e] at e2 e3
    have ub : 2 * (n : Int) * s ≤ 2 * (4 * 10 ^ 30) * 4 := Int.mul_le_mul (by omega) s1 s0 (by omega)
    have lb : 0 ≤ 2 * (n : Int) * s := Int.mul_nonneg (by omega) s0
    generalize many n [.a, .b] (2, k, k + s) = r at e1 e2 e3
    obtain ⟨x, y, z⟩ := r
    have e1 : x = 2 * 1 := e1
    have e2 : y = 1 * (k + 2 * (n : Int) * s) := e2
    have e3 : z = 1 * (k + s + 2 * (n : Int) * s) := e3
    exact big_le.mpr ⟨nat_abs (by show -10 ^ 32 ≤ x; omega) (by show x ≤ 10 ^ 32; omega), nat_abs (by show -10 ^ 32 ≤ y; omega) (by show y ≤ 10 ^ 32; omega), nat_abs (by show -10 ^ 32 ≤ z; omega) (by show z ≤ 10 ^ 32; omega)⟩
  · obtain ⟨f1, f2, f3, f4, f5⟩ := five k0
    have g1 : many 1 [.b, .a] (1, k, -5) = (1, 5, 5 + k) := f1
    have g2 : many 2 [.b, .a] (1, k, -5) = (1, -5, -k) := by show walk (walk _ _) _ = _; rw [f1, f2]
    have g3 : many 3 [.b, .a] (1, k, -5) = (1, 5 + k, k) := by show walk (walk (walk _ _) _) _ = _; rw [f1, f2, f3]
    have g4 : many 4 [.b, .a] (1, k, -5) = (1, -k, 5) := by show walk (walk (walk (walk _ _) _) _) _ = _; rw [f1, f2, f3, f4]
    have g5 : many 5 [.b, .a] (1, k, -5) = (1, k, -5) := by show walk (walk (walk (walk (walk _ _) _) _) _) _ = _; rw [f1, f2, f3, f4, f5]
    refine round_big (m := 5) (by decide) g5 (fun i hi => ?_) n
    have sm : ∀ x y z : Int, -100 ≤ x → x ≤ 100 → -100 ≤ y → y ≤ 100 → -100 ≤ z → z ≤ 100 → At.big (x, y, z) ≤ 10 ^ 32 := fun x y z a b c d e f => big_le.mpr ⟨nat_abs (by show -10 ^ 32 ≤ x; omega) (by show x ≤ 10 ^ 32; omega), nat_abs (by show -10 ^ 32 ≤ y; omega) (by show y ≤ 10 ^ 32; omega), nat_abs (by show -10 ^ 32 ≤ z; omega) (by show z ≤ 10 ^ 32; omega)⟩
    match i, hi with
    | 0, _ => exact sm _ _ _ (by omega) (by omega) (by omega) (by omega) (by omega) (by omega)
    | 1, _ => rw [g1]; exact sm _ _ _ (by omega) (by omega) (by omega) (by omega) (by omega) (by omega)
    | 2, _ => rw [g2]; exact sm _ _ _ (by omega) (by omega) (by omega) (by omega) (by omega) (by omega)
    | 3, _ => rw [g3]; exact sm _ _ _ (by omega) (by omega) (by omega) (by omega) (by omega) (by omega)
    | 4, _ => rw [g4]; exact sm _ _ _ (by omega) (by omega) (by omega) (by omega) (by omega) (by omega)
  · refine round_big (m := 1) (by decide) (by decide +kernel) (fun i hi => ?_) n
    have : ∀ i : Fin 1, At.big (many i.val [.a, .b, .c] (1, 1, 0)) ≤ 10 ^ 32 := by decide +kernel
    exact this ⟨i, hi⟩
  · obtain ⟨f1, f2⟩ := zero_ab (k := k)
    have g1 : many 1 [.a, .b] (0, k, 3) = (0, -k, -3) := f1
    have g2 : many 2 [.a, .b] (0, k, 3) = (0, k, 3) := by show walk (walk _ _) _ = _; rw [f1, f2]
    refine round_big (m := 2) (by decide) g2 (fun i hi => ?_) n
    have sm : ∀ x y z : Int, -100 ≤ x → x ≤ 100 → -100 ≤ y → y ≤ 100 → -100 ≤ z → z ≤ 100 → At.big (x, y, z) ≤ 10 ^ 32 := fun x y z a b c d e f => big_le.mpr ⟨nat_abs (by show -10 ^ 32 ≤ x; omega) (by show x ≤ 10 ^ 32; omega), nat_abs (by show -10 ^ 32 ≤ y; omega) (by show y ≤ 10 ^ 32; omega), nat_abs (by show -10 ^ 32 ≤ z; omega) (by show z ≤ 10 ^ 32; omega)⟩
    match i, hi with
    | 0, _ => exact sm _ _ _ (by omega) (by omega) (by omega) (by omega) (by omega) (by omega)
    | 1, _ => rw [g1]; exact sm _ _ _ (by omega) (by omega) (by omega) (by omega) (by omega) (by omega)
/-- the first letter done ahead of all -/
theorem many_turn (p : P3) (w : List P3) : ∀ (n : Nat) (t : T3), many n (w ++ [p]) (turn p t) = turn p (many n (p :: w) t)
  | 0, _ => rfl
  | n + 1, t => by
    show many n (w ++ [p]) (walk (turn p t) (w ++ [p])) = turn p (many n (p :: w) (walk t (p :: w)))
    rw [walk_append]
    exact many_turn p w n _
theorem many_twice (w : List P3) (n : Nat) (t : T3) : many n (w ++ w) t = many (2 * n) w t := by
  have h := many_rep w 2 n t
  rw [show rep 2 w = w ++ w from by rw [rep_succ, rep_succ, rep_zero, List.append_nil]] at h
  rw [h, Nat.mul_comm]
theorem big_turn1 {t : T3} {B : Int} (p : P3) (h : big t ≤ B) (h0 : 0 ≤ B) : big (turn p t) ≤ B + B * B := by
  obtain ⟨x, y, z⟩ := t
  obtain ⟨a, b, c⟩ := big_le.mp h
  have a : nat x ≤ B := a
  have b : nat y ≤ B := b
  have c : nat z ≤ B := c
  have bb := Int.mul_nonneg h0 h0
  have ng : ∀ v : Int, nat v ≤ B → nat (-v) ≤ B + B * B := fun v hv => by rw [nat_neg]; omega
  cases p with
  | a => exact big_le.mpr ⟨ng x a, push_fit c a b (Int.le_refl _), ng z c⟩
  | b => exact big_le.mpr ⟨ng x a, ng y b, push_fit a b c (Int.le_refl _)⟩
  | c => exact big_le.mpr ⟨push_fit b c a (Int.le_refl _), ng y b, ng z c⟩
theorem small_gr {t : T3} (h : big t ≤ 10 ^ 32) : big t ≤ GR := Int.le_trans h (by decide +kernel)
theorem small_turn {t : T3} (p : P3) (h : big t ≤ 10 ^ 32) : big (turn p t) ≤ GR := Int.le_trans (big_turn1 p h (by decide)) (by decide +kernel)
theorem rowWalk_app (t : T3) (r s : Row) : rowWalk t (r ++ s) = rowWalk (rowWalk t r) s := by
  unfold rowWalk
  rw [List.foldl_append]
theorem rowLen_app (r s : Row) : rowLen (r ++ s) = rowLen r + rowLen s := by
  unfold rowLen
  rw [List.map_append, List.sum_append]
theorem PairsAt.app {H : Hp} : ∀ {rs : List Addr} {row : Row} {ss : List Addr} {col : Row}, PairsAt H rs row → PairsAt H ss col → PairsAt H (rs ++ ss) (row ++ col)
  | [], [], _, _, _, k => k
  | _ :: _, _ :: _, _, _, h, k => ⟨h.1, PairsAt.app h.2 k⟩
  | [], _ :: _, _, _, h, _ => h.elim
  | _ :: _, [], _, _, h, _ => h.elim
theorem rowWalk1 (t : T3) (p1 : List P3) (m1 : Int) : rowWalk t [(p1, m1)] = many m1.toNat p1 t := rfl
theorem rowWalk2 (t : T3) (p1 p2 : List P3) (m1 m2 : Int) : rowWalk t [(p1, m1), (p2, m2)] = many m2.toNat p2 (many m1.toNat p1 t) := rfl
theorem big2 {G : Int} {t : T3} {p1 p2 : List P3} {m1 m2 : Int} (h0 : big t ≤ G) (h1 : big (many m1.toNat p1 t) ≤ G) (h2 : big (many m2.toNat p2 (many m1.toNat p1 t)) ≤ G) : ∀ i, i ≤ ([(p1, m1), (p2, m2)] : Row).length → big (rowWalk t (([(p1, m1), (p2, m2)] : Row).take i)) ≤ G
  | 0, _ => h0
  | 1, _ => h1
  | 2, _ => h2
theorem ok2 {p1 p2 : List P3} {m1 m2 : Int} (h1 : PairOk (p1, m1)) (h2 : PairOk (p2, m2)) : RowOk [(p1, m1), (p2, m2)] := ⟨Nat.le_of_ble_eq_true rfl, fun pm hpm => by
  simp only [List.mem_cons, List.not_mem_nil, or_false] at hpm
  rcases hpm with rfl | rfl
  · exact h1
  · exact h2⟩
theorem cut_tail (p : P3) (w : List P3) : cutS (wd (p :: w)) (some 1) none = wd w := by
  unfold cutS
  have e : (wd (p :: w)).cps.toList = p.ch :: (wd w).cps.toList := by simp [wd]
  have l : (wd (p :: w)).length = w.length + 1 := wd_size (p :: w)
  rw [e, l]
  show (⟨((List.drop (min 1 (w.length + 1)) (p.ch :: (wd w).cps.toList)).take (w.length + 1 - min 1 (w.length + 1))).toArray⟩ : Str) = wd w
  rw [show min 1 (w.length + 1) = 1 by omega, List.drop_one, List.tail_cons, Nat.add_sub_cancel, List.take_of_length_le (by simp [wd])]
theorem first_of (p : P3) (w : List P3) : atI (wd (p :: w)).cps.toList 0 = some p.ch := by
  have e : (wd (p :: w)).cps.toList = p.ch :: (wd w).cps.toList := by simp [wd]
  rw [e]
  exact atI_nat (j := 0) rfl
end At

namespace At
open L2 PyProof.Rows PySem.Spec PySem
/-! ### a ring with a tie of two arrows, at any of the three ties -/
def Cyc3 (p q r : P3) : Prop := (p = .a ∧ q = .b ∧ r = .c) ∨ (p = .b ∧ q = .c ∧ r = .a) ∨ (p = .c ∧ q = .a ∧ r = .b)
def Plc (p q r : P3) (s x y z : Int) (t : T3) : Prop := Cyc3 p q r ∧ (s = 1 ∨ s = -1) ∧ opp r t = s * x ∧ opp p t = s * y ∧ opp q t = s * z
theorem Cyc3.ne {p q r : P3} (h : Cyc3 p q r) : p ≠ q ∧ q ≠ r ∧ p ≠ r := by
  rcases h with ⟨rfl, rfl, rfl⟩ | ⟨rfl, rfl, rfl⟩ | ⟨rfl, rfl, rfl⟩ <;> decide
/-- grown by d but for the tie at p -/
def grown (p : P3) (d : Int) (t : T3) : T3 := match p, t with
  | .a, (x, y, z) => (x, y + d, z + d)
  | .b, (x, y, z) => (x + d, y, z + d)
  | .c, (x, y, z) => (x + d, y + d, z)
theorem Plc.up {p q r : P3} {s A B : Int} {t : T3} (h : Plc p q r s 2 A B t) (hB : 0 < B) (hAB : A ≤ B) (n : Nat) : many n [p, q] t = grown p (s * 2 * n * (B - A)) t := by
  obtain ⟨cy, hs, e1, e2, e3⟩ := h
  obtain ⟨n1, n2, n3⟩ := cy.ne
  have ev := even_many n1 n2 n3 hs n t A B (by rw [e1, Int.mul_comm]) e2 e3 (fun k _ => by
    have h1 := Int.mul_nonneg (show 0 ≤ 2 * (k : Int) by omega) (show 0 ≤ B - A by omega)
    have h2 := Int.mul_nonneg (show 0 ≤ 2 * (k : Int) + 1 by omega) (show 0 ≤ B - A by omega)
    omega)
  obtain ⟨f1, f2, f3⟩ := ev
  have d1 : s * (A + 2 * (n : Int) * (B - A)) = s * A + s * 2 * n * (B - A) := by
    rw [Int.mul_add, ← Int.mul_assoc, ← Int.mul_assoc]
  have d2 : s * (B + 2 * (n : Int) * (B - A)) = s * B + s * 2 * n * (B - A) := by
    rw [Int.mul_add, ← Int.mul_assoc, ← Int.mul_assoc]
  rw [d1, ← e2] at f2
  rw [d2, ← e3] at f3
  rw [Int.mul_comm, ← e1] at f1
  refine opp_ext n1 n2 n3 ?_ ?_ ?_
  · rw [f2]
    obtain ⟨x, y, z⟩ := t
    rcases cy with ⟨rfl, rfl, rfl⟩ | ⟨rfl, rfl, rfl⟩ | ⟨rfl, rfl, rfl⟩ <;> rfl
  · rw [f3]
    obtain ⟨x, y, z⟩ := t
    rcases cy with ⟨rfl, rfl, rfl⟩ | ⟨rfl, rfl, rfl⟩ | ⟨rfl, rfl, rfl⟩ <;> rfl
  · rw [f1]
    obtain ⟨x, y, z⟩ := t
    rcases cy with ⟨rfl, rfl, rfl⟩ | ⟨rfl, rfl, rfl⟩ | ⟨rfl, rfl, rfl⟩ <;> rfl
/-- turns at two places with a tie of two: three times as much with each, at most -/
def Two (p q r : P3) (M : Int) (t : T3) : Prop := nat (opp r t) ≤ 2 ∧ nat (opp p t) ≤ M ∧ nat (opp q t) ≤ M
theorem Two.turn {p q r s : P3} {M : Int} {t : T3} (c : p ≠ q ∧ q ≠ r ∧ p ≠ r) (hs : s = p ∨ s = q) (h0 : 0 ≤ M) (h : Two p q r M t) : Two p q r (3 * M) (turn s t) := by
  obtain ⟨n1, n2, n3⟩ := c
  obtain ⟨a, b, d⟩ := h
  rcases hs with rfl | rfl
  · exact ⟨by rw [opp_turn s r t n3]; exact a, grow_fit n1 n2 n3 b d a (by omega), by rw [opp_turn s q t n1]; omega⟩
  · exact ⟨by rw [opp_turn s r t n2]; exact a, by rw [opp_turn s p t n1.symm]; omega, grow_fit n1.symm n3 n2 d b a (by omega)⟩
theorem Two.walk {p q r : P3} (c : p ≠ q ∧ q ≠ r ∧ p ≠ r) : ∀ (L : List P3) {M : Int} {t : T3}, 0 ≤ M → (∀ s ∈ L, s = p ∨ s = q) → Two p q r M t → Two p q r (3 ^ L.length * M) (walk t L)
  | [], M, t, _, _, h => by rw [List.length_nil, Int.pow_zero, Int.one_mul]; exact h
  | s :: L, M, t, h0, hL, h => by
    have := Two.walk c L (by omega) (fun x hx => hL x (List.mem_cons_of_mem _ hx)) (h.turn c (hL s List.mem_cons_self) h0)
    rw [List.length_cons, Int.pow_succ, Int.mul_assoc]
    exact this
theorem Two.big {p q r : P3} {M : Int} {t : T3} (cy : Cyc3 p q r) (h2 : 2 ≤ M) (h : Two p q r M t) : big t ≤ M := by
  obtain ⟨a, b, d⟩ := h
  obtain ⟨x, y, z⟩ := t
  refine big_le.mpr ?_
  rcases cy with ⟨rfl, rfl, rfl⟩ | ⟨rfl, rfl, rfl⟩ | ⟨rfl, rfl, rfl⟩
  · exact ⟨Int.le_trans a h2, b, d⟩
  · exact ⟨d, Int.le_trans a h2, b⟩
  · exact ⟨b, d, Int.le_trans a h2⟩
theorem Plc.two {p q r : P3} {s A B : Int} {t : T3} (h : Plc p q r s 2 A B t) (hA : 0 ≤ A) (hB : 0 ≤ B) (h1 : A ≤ 100) (h2 : B ≤ 100) : Two p q r 100 t := by
  obtain ⟨_, hs, e1, e2, e3⟩ := h
  unfold Two
  rw [e1, e2, e3]
  rcases hs with rfl | rfl
  · exact ⟨by decide, nat_abs (by omega) (by omega), nat_abs (by omega) (by omega)⟩
  · exact ⟨by decide, nat_abs (by omega) (by omega), nat_abs (by omega) (by omega)⟩
theorem two_gr {n : Nat} (h : n ≤ 100) : 3 ^ n * 100 ≤ GR := by
  have : (3 : Int) ^ n ≤ 3 ^ 100 := by
    have := Nat.pow_le_pow_right (n := 3) (by decide) h
    exact_mod_cast this
  have e : (3 : Int) ^ 100 * 100 ≤ GR := by decide +kernel
  exact Int.le_trans (Int.mul_le_mul_of_nonneg_right this (by decide)) e
theorem Plc.walkBig {p q r : P3} {s A B : Int} {t : T3} (h : Plc p q r s 2 A B t) (hA : 0 ≤ A) (hB : 0 ≤ B) (h1 : A ≤ 100) (h2 : B ≤ 100) (L : List P3) (hL : ∀ s ∈ L, s = p ∨ s = q) (hn : L.length ≤ 100) : big (walk t L) ≤ GR := by
  have w := Two.walk h.1.ne L (by decide) hL (h.two hA hB h1 h2)
  have p1 : (1 : Int) ≤ 3 ^ L.length := Int.pow_pos (by decide)
  exact Int.le_trans (w.big h.1 (by omega)) (two_gr hn)
theorem Plc.upBig {p q r : P3} {s A B : Int} {t : T3} (h : Plc p q r s 2 A B t) (hA : 0 ≤ A) (hB : 0 < B) (hAB : A ≤ B) (h2 : B ≤ 100) (n : Nat) (hn : (n : Int) ≤ 10 ^ 200) : big (many n [p, q] t) ≤ GR := by
  obtain ⟨cy, hs, e1, e2, e3⟩ := h
  obtain ⟨n1, n2, n3⟩ := cy.ne
  have ev := even_many n1 n2 n3 hs n t A B (by rw [e1, Int.mul_comm]) e2 e3 (fun k _ => by
    have h1 := Int.mul_nonneg (show 0 ≤ 2 * (k : Int) by omega) (show 0 ≤ B - A by omega)
    have h2 := Int.mul_nonneg (show 0 ≤ 2 * (k : Int) + 1 by omega) (show 0 ≤ B - A by omega)
    omega)
  obtain ⟨f1, f2, f3⟩ := ev
  have ub : 2 * (n : Int) * (B - A) ≤ 2 * 10 ^ 200 * 100 := Int.mul_le_mul (by omega) (by omega) (by omega) (by decide)
  have lb : 0 ≤ 2 * (n : Int) * (B - A) := Int.mul_nonneg (by omega) (by omega)
  have fin : ∀ v : Int, 0 ≤ v → v ≤ 100 + 2 * 10 ^ 200 * 100 → nat (s * v) ≤ GR := fun v h0 h1 => by
    have : nat (s * v) ≤ 100 + 2 * 10 ^ 200 * 100 := by
      rcases hs with rfl | rfl
      · exact nat_abs (by omega) (by omega)
      · exact nat_abs (by omega) (by omega)
    exact Int.le_trans this (by decide +kernel)
  have g1 : nat (opp r (many n [p, q] t)) ≤ GR := by rw [f1, Int.mul_comm]; exact fin 2 (by decide) (by decide)
  have g2 : nat (opp p (many n [p, q] t)) ≤ GR := by rw [f2]; exact fin _ (by omega) (by omega)
  have g3 : nat (opp q (many n [p, q] t)) ≤ GR := by rw [f3]; exact fin _ (by omega) (by omega)
  generalize many n [p, q] t = u at g1 g2 g3
  obtain ⟨x, y, z⟩ := u
  refine big_le.mpr ?_
  rcases cy with ⟨rfl, rfl, rfl⟩ | ⟨rfl, rfl, rfl⟩ | ⟨rfl, rfl, rfl⟩
  · exact ⟨g1, g2, g3⟩
  · exact ⟨g3, g1, g2⟩
  · exact ⟨g2, g3, g1⟩
end At

namespace At
open L2 PyProof.Rows PySem.Spec PySem
/-! ### words that come round again -/
def Rd (t : T3) (ps : List P3) : Prop := 1 ≤ ps.length ∧ ps.length ≤ 5 ∧ (∃ n, 1 ≤ n ∧ n ≤ 60 ∧ many n ps t = t) ∧ ∀ n j, big (walk (many n ps t) (ps.take j)) ≤ GR
/-- all that turns lead to from the small ones -/
def SL : List T3 := [(-10 ^ 40, 0, 0), (-3, 0, 0), (-2, -2, -2), (-2, -1, -1), (-1, -2, -1), (-1, -1, -2), (-1, -1, -1), (-1, -1, 0), (-1, -1, 1), (-1, 0, -1), (-1, 0, 0), (-1, 0, 1), (-1, 1, -1), (-1, 1, 0), (-1, 1, 1), (0, -10 ^ 40, 0), (0, -3, 0), (0, -1, -1), (0, -1, 0), (0, -1, 1), (0, 0, 0), (0, 1, -1), (0, 1, 0), (0, 1, 1), (0, 3, 0), (0, 10 ^ 40, 0), (1, -1, -1), (1, -1, 0), (1, -1, 1), (1, 0, -1), (1, 0, 0), (1, 0, 1), (1, 1, -1), (1, 1, 0), (1, 1, 1), (1, 1, 2), (1, 2, 1), (2, 1, 1), (2, 2, 2), (3, 0, 0), (10 ^ 40, 0, 0)]
theorem SL_a : ∀ t ∈ SL, turn .a t ∈ SL := by decide +kernel
theorem SL_b : ∀ t ∈ SL, turn .b t ∈ SL := by decide +kernel
theorem SL_c : ∀ t ∈ SL, turn .c t ∈ SL := by decide +kernel
theorem SL_big : ∀ t ∈ SL, big t ≤ GR := by decide +kernel
theorem SL_walk : ∀ (ps : List P3) {t : T3}, t ∈ SL → walk t ps ∈ SL
  | [], _, h => h
  | p :: ps, t, h => by
    rw [walk_cons]
    refine SL_walk ps ?_
    cases p
    · exact SL_a t h
    · exact SL_b t h
    · exact SL_c t h
def more (ws : List (List P3)) : List (List P3) := ws.flatMap fun w => [.a :: w, .b :: w, .c :: w]
theorem more_mem {ws : List (List P3)} {w : List P3} (p : P3) (h : w ∈ ws) : p :: w ∈ more ws := List.mem_flatMap.mpr ⟨w, h, by cases p <;> simp⟩
def W1 : List (List P3) := more [[]]
def W2 : List (List P3) := more W1
def W3 : List (List P3) := more W2
def W4 : List (List P3) := more W3
def round (t : T3) (ps : List P3) : Bool := decide (many 1 ps t = t) || decide (many 2 ps t = t) || decide (many 3 ps t = t) || decide (many 4 ps t = t) || decide (many 5 ps t = t) || decide (many 6 ps t = t) || decide (many 7 ps t = t) || decide (many 8 ps t = t)
theorem round_ok {t : T3} {ps : List P3} (h : round t ps = true) : ∃ n, 1 ≤ n ∧ n ≤ 60 ∧ many n ps t = t := by
  unfold round at h
  simp only [Bool.or_eq_true, decide_eq_true_eq] at h
  rcases h with ((((((h | h) | h) | h) | h) | h) | h) | h
  · exact ⟨1, by decide, by decide, h⟩
  · exact ⟨2, by decide, by decide, h⟩
  · exact ⟨3, by decide, by decide, h⟩
  · exact ⟨4, by decide, by decide, h⟩
  · exact ⟨5, by decide, by decide, h⟩
  · exact ⟨6, by decide, by decide, h⟩
  · exact ⟨7, by decide, by decide, h⟩
  · exact ⟨8, by decide, by decide, h⟩
theorem SL_1 : ∀ ps ∈ W1, ∀ t ∈ SL, round t ps = true := by decide +kernel
theorem SL_2 : ∀ ps ∈ W2, ∀ t ∈ SL, round t ps = true := by decide +kernel
theorem SL_3 : ∀ ps ∈ W3, ∀ t ∈ SL, round t ps = true := by decide +kernel
theorem SL_4 : ∀ ps ∈ W4, ∀ t ∈ SL, round t ps = true := by decide +kernel
theorem SL_round {t : T3} {ps : List P3} (h : t ∈ SL) (l1 : 1 ≤ ps.length) (l2 : ps.length ≤ 4) : round t ps = true := by
  match ps, l1, l2 with
  | [x], _, _ => exact SL_1 _ (more_mem x (by simp)) t h
  | [x, y], _, _ => exact SL_2 _ (more_mem x (more_mem y (by simp))) t h
  | [x, y, z], _, _ => exact SL_3 _ (more_mem x (more_mem y (more_mem z (by simp)))) t h
  | [x, y, z, u], _, _ => exact SL_4 _ (more_mem x (more_mem y (more_mem z (more_mem u (by simp))))) t h
  | _ :: _ :: _ :: _ :: _ :: _, _, l => simp at l
theorem SL_rd {t : T3} {ps : List P3} (h : t ∈ SL) (l1 : 1 ≤ ps.length) (l2 : ps.length ≤ 4) : Rd t ps :=
  ⟨l1, by omega, round_ok (SL_round h l1 l2), fun n j => by
    rw [← walk_rep]
    exact SL_big _ (SL_walk _ (SL_walk _ h))⟩
/-! a tie of none or one -/
def neg (t : T3) : T3 := (-t.1, -t.2.1, -t.2.2)
theorem push_neg3 (u v w : Int) : push (-u) (-v) (-w) = -push u v w := by
  unfold push
  rw [Int.neg_mul_neg]
  by_cases h1 : 0 < u ∧ 0 < v
  · rw [if_pos h1, if_neg (by omega), if_pos (by omega)]; omega
  · by_cases h2 : u < 0 ∧ v < 0
    · rw [if_neg h1, if_pos h2, if_pos (by omega)]; omega
    · rw [if_neg h1, if_neg h2, if_neg (by omega), if_neg (by omega)]
theorem turn_neg (p : P3) (t : T3) : turn p (neg t) = neg (turn p t) := by
  obtain ⟨x, y, z⟩ := t
  cases p
  · show (- -x, push (-z) (-x) (-y), - -z) = (- -x, -push z x y, - -z)
    rw [push_neg3]
  · show (- -x, - -y, push (-x) (-y) (-z)) = (- -x, - -y, -push x y z)
    rw [push_neg3]
  · show (push (-y) (-z) (-x), - -y, - -z) = (-push y z x, - -y, - -z)
    rw [push_neg3]
theorem walk_neg : ∀ (ps : List P3) (t : T3), walk (neg t) ps = neg (walk t ps)
  | [], _ => rfl
  | p :: ps, t => by rw [walk_cons, walk_cons, turn_neg, walk_neg ps]
theorem many_neg (ps : List P3) : ∀ (n : Nat) (t : T3), many n ps (neg t) = neg (many n ps t)
  | 0, _ => rfl
  | n + 1, t => by
    show many n ps (walk (neg t) ps) = neg (many n ps (walk t ps))
    rw [walk_neg, many_neg ps n]
theorem neg_neg3 (t : T3) : neg (neg t) = t := by
  obtain ⟨x, y, z⟩ := t
  show (- -x, - -y, - -z) = _
  rw [Int.neg_neg, Int.neg_neg, Int.neg_neg]
def sA (A B : Int) : Int := if 0 < B then A - B else A
def sB (u B : Int) : Int := if u < 0 then -B - u else -B
theorem push_one (v w : Int) : push v 1 w = sA w v := push_is (fun h _ => by unfold sA; rw [if_pos h]; omega) (fun _ h => absurd h (by decide)) (fun h _ => by
  unfold sA
  rw [if_neg (by omega)])
theorem push_mone (u w : Int) : push u (-1) w = if u < 0 then w - u else w := push_is (fun _ h => absurd h (by decide)) (fun h _ => by rw [if_pos h]; omega) (fun _ h => by rw [if_neg (by omega)])
theorem one_step {p q r : P3} (c : p ≠ q ∧ q ≠ r ∧ p ≠ r) {t : T3} (hr : opp r t = 1) : opp r (walk t [p, q]) = 1 ∧ opp p (walk t [p, q]) = -sA (opp p t) (opp q t) ∧ opp q (walk t [p, q]) = sB (sA (opp p t) (opp q t)) (opp q t) := by
  obtain ⟨n1, n2, n3⟩ := c
  have a1 : opp p (turn p t) = sA (opp p t) (opp q t) := by rw [opp_same n1 n2 n3, hr, push_one]
  have a2 : opp q (turn p t) = -opp q t := opp_other n1 t
  have a3 : opp r (turn p t) = -1 := by rw [opp_other n3, hr]
  refine ⟨?_, ?_, ?_⟩
  · show opp r (turn q (turn p t)) = 1
    rw [opp_other n2, a3]; rfl
  · show opp p (turn q (turn p t)) = _
    rw [opp_other n1.symm, a1]
  · show opp q (turn q (turn p t)) = _
    rw [opp_same n1.symm n3 n2, a1, a2, a3, push_mone]
    unfold sB
    split <;> rfl
theorem five_id (A B : Int) : ∀ A1 B1 A2 B2 A3 B3 A4 B4 A5 B5 : Int, A1 = -sA A B → B1 = sB (sA A B) B → A2 = -sA A1 B1 → B2 = sB (sA A1 B1) B1 → A3 = -sA A2 B2 → B3 = sB (sA A2 B2) B2 → A4 = -sA A3 B3 → B4 = sB (sA A3 B3) B3 → A5 = -sA A4 B4 → B5 = sB (sA A4 B4) B4 → A5 = A ∧ B5 = B := by
  have sp : ∀ A B A' B' : Int, A' = -sA A B → B' = sB (sA A B) B → (0 < B ∧ A - B < 0 ∧ A' = B - A ∧ B' = -A) ∨ (0 < B ∧ 0 ≤ A - B ∧ A' = B - A ∧ B' = -B) ∨ (B ≤ 0 ∧ A < 0 ∧ A' = -A ∧ B' = -B - A) ∨ (B ≤ 0 ∧ 0 ≤ A ∧ A' = -A ∧ B' = -B) := fun A B A' B' h1 h2 => by
    unfold sA at h1 h2
    unfold sB at h2
    split at h1
    · next hb =>
      rw [if_pos hb] at h2
      split at h2 <;> omega
    · next hb =>
      rw [if_neg hb] at h2
      split at h2 <;> omega
  intro A1 B1 A2 B2 A3 B3 A4 B4 A5 B5 h1 g1 h2 g2 h3 g3 h4 g4 h5 g5
  have s1 := sp _ _ _ _ h1 g1
  have s2 := sp _ _ _ _ h2 g2
  have s3 := sp _ _ _ _ h3 g3
  have s4 := sp _ _ _ _ h4 g4
  have s5 := sp _ _ _ _ h5 g5
  clear h1 g1 h2 g2 h3 g3 h4 g4 h5 g5 sp
  rcases s1 with s1 | s1 | s1 | s1 <;> rcases s2 with s2 | s2 | s2 | s2 <;> (try (exfalso; omega)) <;> rcases s3 with s3 | s3 | s3 | s3 <;> (try (exfalso; omega)) <;> rcases s4 with s4 | s4 | s4 | s4 <;> (try (exfalso; omega)) <;> rcases s5 with s5 | s5 | s5 | s5 <;> omega
theorem tie_one {p q r : P3} (c : p ≠ q ∧ q ≠ r ∧ p ≠ r) {t : T3} (hr : opp r t = 1) : many 5 [p, q] t = t := by
  obtain ⟨r1, a1, b1⟩ := one_step c hr
  obtain ⟨r2, a2, b2⟩ := one_step c r1
  obtain ⟨r3, a3, b3⟩ := one_step c r2
  obtain ⟨r4, a4, b4⟩ := one_step c r3
  obtain ⟨r5, a5, b5⟩ := one_step c r4
  obtain ⟨e1, e2⟩ := five_id (opp p t) (opp q t) _ _ _ _ _ _ _ _ _ _ a1 b1 a2 b2 a3 b3 a4 b4 a5 b5
  exact opp_ext c.1 c.2.1 c.2.2 e1 e2 (by rw [hr]; exact r5)
theorem tie_none {p q r : P3} (c : p ≠ q ∧ q ≠ r ∧ p ≠ r) {t : T3} (hr : opp r t = 0) : many 2 [p, q] t = t := by
  have pz : ∀ v w : Int, push v 0 w = w := fun v w => push_is (fun _ h => absurd h (by decide)) (fun _ h => absurd h (by decide)) (fun _ _ => rfl)
  have st : ∀ {t : T3}, opp r t = 0 → opp r (walk t [p, q]) = 0 ∧ opp p (walk t [p, q]) = -opp p t ∧ opp q (walk t [p, q]) = -opp q t := fun {t} hr => by
    obtain ⟨n1, n2, n3⟩ := c
    have a1 : opp p (turn p t) = opp p t := by rw [opp_same n1 n2 n3, hr, pz]
    have a2 : opp q (turn p t) = -opp q t := opp_other n1 t
    have a3 : opp r (turn p t) = 0 := by rw [opp_other n3, hr]; rfl
    refine ⟨?_, ?_, ?_⟩
    · show opp r (turn q (turn p t)) = 0
      rw [opp_other n2, a3]; rfl
    · show opp p (turn q (turn p t)) = _
      rw [opp_other n1.symm, a1]
    · show opp q (turn q (turn p t)) = _
      rw [opp_same n1.symm n3 n2, a2, a3, pz]
  obtain ⟨r1, a1, b1⟩ := st hr
  obtain ⟨r2, a2, b2⟩ := st r1
  refine opp_ext c.1 c.2.1 c.2.2 ?_ ?_ ?_
  · show opp p (walk (walk t [p, q]) [p, q]) = _
    rw [a2, a1, Int.neg_neg]
  · show opp q (walk (walk t [p, q]) [p, q]) = _
    rw [b2, b1, Int.neg_neg]
  · rw [hr]; exact r2
theorem opp_neg (p : P3) (t : T3) : opp p (neg t) = -opp p t := by
  obtain ⟨x, y, z⟩ := t
  cases p <;> rfl
/-- near small: a tie of none or one, the others up to 100 -/
def Near (p q r : P3) (t : T3) : Prop := Cyc3 p q r ∧ (opp r t = 0 ∨ opp r t = 1 ∨ opp r t = -1) ∧ nat (opp p t) ≤ 100 ∧ nat (opp q t) ≤ 100
theorem Near.pq {p q r : P3} {t : T3} (h : Near p q r t) : ∃ n, 1 ≤ n ∧ n ≤ 5 ∧ many n [p, q] t = t := by
  obtain ⟨cy, hr, _, _⟩ := h
  rcases hr with hr | hr | hr
  · exact ⟨2, by decide, by decide, tie_none cy.ne hr⟩
  · exact ⟨5, by decide, by decide, tie_one cy.ne hr⟩
  · refine ⟨5, by decide, by decide, ?_⟩
    have := tie_one cy.ne (t := neg t) (by rw [opp_neg, hr]; rfl)
    rw [many_neg] at this
    have := congrArg neg this
    rwa [neg_neg3, neg_neg3] at this
theorem Near.rd {p q r : P3} {t : T3} (h : Near p q r t) {ps : List P3} (l1 : 1 ≤ ps.length) (l2 : ps.length ≤ 5) (hL : ∀ s ∈ ps, s = p ∨ s = q) (hm : ∃ m, 1 ≤ m ∧ m ≤ 5 ∧ many m ps t = t) : Rd t ps := by
  obtain ⟨m, m1, m5, e⟩ := hm
  refine ⟨l1, l2, ⟨m, m1, by omega, e⟩, fun n j => ?_⟩
  obtain ⟨cy, hr, ha, hb⟩ := h
  rw [many_round ps m t e n, ← walk_rep, ← walk_append]
  have two : Two p q r 100 t := ⟨by rcases hr with hr | hr | hr <;> rw [hr] <;> decide, ha, hb⟩
  have lm : n % m < m := Nat.mod_lt _ (by omega)
  have len : (rep (n % m) ps ++ ps.take j).length ≤ 100 := by
    rw [List.length_append, rep_length, List.length_take]
    have := Nat.mul_le_mul (show n % m ≤ 4 by omega) l2
    omega
  have inL : ∀ s ∈ rep (n % m) ps ++ ps.take j, s = p ∨ s = q := fun s hs => by
    rcases List.mem_append.mp hs with hs | hs
    · unfold rep at hs
      obtain ⟨y, hy, hs⟩ := List.mem_flatten.mp hs
      rw [(List.mem_replicate.mp hy).2] at hs
      exact hL s hs
    · exact hL s (List.mem_of_mem_take hs)
  have w := Two.walk cy.ne _ (by decide) inL two
  have p1 : (1 : Int) ≤ 3 ^ (rep (n % m) ps ++ ps.take j).length := Int.pow_pos (by decide)
  exact Int.le_trans (w.big cy (by omega)) (two_gr len)
theorem Near.rd1 {p q r : P3} {t : T3} (h : Near p q r t) : Rd t [p, q] := h.rd (Nat.le_of_ble_eq_true rfl) (Nat.le_of_ble_eq_true rfl) (fun s hs => by simpa using hs) h.pq
theorem Near.rd2 {p q r : P3} {t : T3} (h : Near p q r t) : Rd t [q, p] := h.rd (Nat.le_of_ble_eq_true rfl) (Nat.le_of_ble_eq_true rfl) (fun s hs => by simp at hs; exact hs.symm) (by
  obtain ⟨n, n1, n2, e⟩ := h.pq
  refine ⟨n, n1, n2, ?_⟩
  have := many_back [p, q] n t
  rw [e] at this
  exact this)
theorem Near.rd3 {p q r : P3} {t : T3} (h : Near p q r t) : Rd t [p, q, p, q] := h.rd (Nat.le_of_ble_eq_true rfl) (Nat.le_of_ble_eq_true rfl) (fun s hs => by simp at hs; rcases hs with h | h | h | h <;> simp [h]) (by
  obtain ⟨n, n1, n2, e⟩ := h.pq
  refine ⟨n, n1, n2, ?_⟩
  have := many_twice [p, q] n t
  rw [show ([p, q] ++ [p, q]) = [p, q, p, q] from rfl] at this
  rw [this, Nat.two_mul, many_add, e, e])
theorem Near.rd4 {p q r : P3} {t : T3} (h : Near p q r t) : Rd t [p, q, p, q, p] := h.rd (Nat.le_of_ble_eq_true rfl) (Nat.le_of_ble_eq_true rfl) (fun s hs => by simp at hs; rcases hs with h | h | h | h | h <;> simp [h]) ⟨2, by decide, by decide, by
  have := many_conj [p, q] p 2 t
  rw [if_neg (by decide)] at this
  exact this⟩
theorem Near.rd5 {p q r : P3} {t : T3} (h : Near p q r t) : Rd t [p] := h.rd (Nat.le_of_ble_eq_true rfl) (Nat.le_of_ble_eq_true rfl) (fun s hs => by simp at hs; exact .inl hs) ⟨2, by decide, by decide, by
  show turn p (turn p t) = t
  exact turn_twice p t⟩
/-- what stands within a word repeated -/
theorem rep_take (ps : List P3) : ∀ (k : Nat) (t : T3) (j : Nat), ∃ n i, walk t ((rep k ps).take j) = walk (many n ps t) (ps.take i)
  | 0, t, j => ⟨0, 0, by rw [rep_zero, List.take_nil, List.take_zero]; rfl⟩
  | k + 1, t, j => by
    rw [rep_succ]
    by_cases h : j ≤ ps.length
    · exact ⟨0, j, by rw [List.take_append_of_le_length h]; rfl⟩
    · obtain ⟨n, i, e⟩ := rep_take ps k (walk t ps) (j - ps.length)
      refine ⟨n + 1, i, ?_⟩
      rw [List.take_append, List.take_of_length_le (by omega), walk_append, e]
      rfl
end At

namespace At
open L2 PyProof.Rows PySem.Spec PySem
section
variable {K : PySem.W.Frag} {c : Str} {H : Hp} {Q : VK} {a : Addr}
theorem go_isO {dx : Addr} {fs : List (Str × V)} (h : isOk K c = true) (cl : Cls K (He.ga K c)) (e : H a = some (.ins (He.ga K c) dx fs)) (q : Q (.bl true) H) : rIsi K [.ref a, .ref (He.ga K c)] H Q :=
  ⟨_, _, _, _, true, rfl, .own _, isOk.ty h cl e, same_kit _, q⟩
theorem go_isNo {xs : List V} (h : isOk K c = true) (e : H a = some (.tup xs)) (q : Q (.bl false) H) : rIsi K [.ref a, .ref (He.ga K c)] H Q := ⟨_, _, _, _, false, rfl, .own _, .base (.tup e), isOk.no h, q⟩
end
end At

namespace At
open L2 PyProof.Rows PySem.Spec PySem
/-! ### a def whose promise holds only where no repr is under way -/
def FnG (P : Program) (w : World) (K : PySem.W.Frag) (mg : Str → Option Value) (base : Heap) (k : Nat) (f : Addr) (sp : Sp) : Prop :=
  ∀ (A : Around) (outer : List Env) (s : Shared) (H : Hp) (us : List Value) (vs : List V) (Q : VK) (E : XK), A.guards = some [] → Room k A → Env0 P w K mg base A outer s H → Vals vs us → sp vs H Q E →
    codeAny (model P w) A (.call (.ref f) ⟨us, []⟩) (CR CX0 outer P w H s Q E) s
section
variable {P : Program} {w : World} {K : PySem.W.Frag} {mg : Str → Option Value} {base : Heap} {x q : Str} {st : Stmt} {f : Addr} {fd : FuncData} {N ps : List Str} {k : Nat} {sp : Sp}
theorem okG (F : Fun K x q st f fd) (S : FnScope N ps (defScope st)) (len : ∀ vs H Q E, sp vs H Q E → vs.length = ps.length)
    (binds : ∀ (kV doc pm : Value) (an : Option Addr) (cdv ct : Value) (us : List Value), us.length = ps.length → bindArgs (PySem.W.fnOf x q (defArgs st) (defBody st) (defScope st) .none kV doc pm an cdv ct) ⟨us, []⟩ = pure (ps.zip us))
    (body : ∀ (cdv : Value) (A : Around) (outer : List Env) (s : Shared) (H : Hp) (vs : List V) (Q : VK) (E : XK), A.guards = some [] → Room k (A.deeper (envOfC q (defScope st) s.heap.objs.size f cdv)) → sp vs H Q E →
      ∃ t, PSs (cxOf CX0 P w K mg base N q (defScope st) f cdv A outer s H E).nox (defBody st) t ∧ t { nx := fun _ H' => Q .non H', rt := Q } (start N vs) H) : FnG P w K mg base (k + 1) f sp := by
  intro A outer s H us vs Q E quiet room e0 rv hsp
  obtain ⟨_, _, kV, doc, pm, an, cdv, ct, _, rfl, lk, hcd⟩ := F.ex
  have many : vs.length = ps.length := len _ _ _ _ hsp
  have here : K.In s.heap := e0.mod.kin.keeps fun b o e => (e0.bs b o e).1
  have free : s.heap.NoLimit := e0.mod.nolimit.keeps fun b o e => (e0.bs b o e).1
  obtain ⟨t, ht, hq⟩ := body cdv A outer s H vs Q E quiet (room.deeper _) hsp
  refine codeAny_call_function room.depth (here _ _ lk) rfl S.co S.gen rfl (PySem.W.codeRec_of here hcd) ?_
  refine BindsTo.of_eq (binds kV doc pm an cdv ct us (rv.length.symm.trans many)) _ _ _ _ ?_
  refine wpAny_newFunctionEnv_cells S.kind (fun y hy => (S.par y.1 (List.of_mem_zip (a := y.1) (b := y.2) hy).1).imp id fun c => ⟨c, PySem.W.cellsFrom_some _ _ _ (.inl c)⟩) fun env he s1 made => ?_
  subst he
  refine ⟨free.keeps made.toInCall.keep, codeAny_func (wpAny_mono (ht.nox.run [] s1 _ H _ (inv_start S room.hd e0 many rv made) hq) (fun fl s' z => ?_) fun _ _ z => z)⟩
  match fl, z with
  | .ret _, ⟨v, _, H', J, r, q'⟩ => exact ⟨v, H', J.os, J.bare, J.base, J.hok, r, q'⟩
  | .next, ⟨_, H', J, q'⟩ => exact ⟨.non, H', J.os, J.bare, J.base, J.hok, rfl, q'⟩
  | .brk, ⟨_, _, _, q'⟩ => exact q'.elim
  | .cont, ⟨_, _, _, q'⟩ => exact q'.elim
end
/-- f(e, ..), f such a def -/
theorem pe_callG {X : Cx} {k : Nat} {f : Addr} {sp : Sp} {E : XK} {x : Str} {e : Expr} {es : List Expr} {t : TA} {p pos : Pos} (F : FnG X.prog X.w X.K X.mg X.base k f sp) (quiet : X.A.guards = some []) (hr : Room k X.A) (hg : Gl X x) (hm : X.mg x = some (.ref f)) (hk : PySem.W.keepIn X.K (.ref f) = true)
    (hx : Passes CX0 X E) (ha : PA X (e :: es) t) (hd : (x == ("__debug__" : Str)) = false := by decide) (he : starEach (e :: es) X.env = (false, eval e X.env) :: starEach es X.env := by rfl) (plain : (backTo pos (starEach es X.env)).any (·.1) = false := by rfl) :
    PE X (.Call (.Name x p) (e :: es) [] pos) fun σ H Q => t σ H fun ws H1 => sp ws H1 Q E := by
  constructor
  intro pins s σ H Q I h
  refine wpAny_Call_Name_kw (ld_glob I hg hm (PySem.W.callWith_K (h₀ := X.base) I.ok.mod.kin hk (thn (ha.run pos pins s σ H _ I h) fun us s1 z => ?_) he plain) hd)
  obtain ⟨vs, H1, I1, r, q⟩ := z
  refine ⟨I1.kIn, wpAny_call (codeAny_mono (F X.A X.stack s1 H1 us vs Q E quiet hr I1.env0 r q) fun z s' hz => ?_)⟩
  match z, hz with
  | .error e, hz => exact hx pins σ H1 s1 e s' I1 hz
  | .ok (.ret _), hz => exact I1.after hz
end At

namespace At
open L2 PyProof.Rows PySem.Spec PySem
def top (i : Nat) : Stmt := PySem.Challenge.pw_arrowtrios_k31_whole_rows_put_together.main.body.getD i (.Pass ⟨0, 0, 0, 0⟩)
abbrev s_places_of : Stmt := top 14
abbrev s_without_doubles : Stmt := top 15
abbrev s_way_and_core : Stmt := top 16
abbrev s_root_of : Stmt := top 17
abbrev s_is_integer : Stmt := top 19
abbrev s_is_integer_within : Stmt := top 20
abbrev s_is_word : Stmt := top 21
abbrev s_is_pair_of_turns : Stmt := top 22
abbrev s_check_turns : Stmt := top 23
abbrev s_place_before : Stmt := top 25
abbrev s_place_behind : Stmt := top 26
abbrev s_sizes_of : Stmt := top 27
abbrev s_goes_round : Stmt := top 28
abbrev s_mark_of : Stmt := top 29
abbrev s_turned_at : Stmt := top 30
abbrev s_opposite_greatest : Stmt := top 31
abbrev s_place_down : Stmt := top 32
abbrev s_behind_pair : Stmt := top 34
abbrev s_behind_way : Stmt := top 35
abbrev s_is_beyond : Stmt := top 36
abbrev s_behind_repeated : Stmt := top 37
abbrev s_even_repeats : Stmt := top 38
abbrev s_arrows_in : Stmt := top 39
abbrev s_behind_even : Stmt := top 40
abbrev s_check_numbers : Stmt := top 43
abbrev s_check_standing : Stmt := top 44
abbrev s_turned : Stmt := top 45
abbrev s_length : Stmt := top 46
abbrev s__law_cup : Stmt := top 48
abbrev s__law_sip : Stmt := top 49
abbrev s__law_pick : Stmt := top 50
abbrev s__law_push : Stmt := top 51
abbrev s__law_turn : Stmt := top 52
abbrev s__law_walk : Stmt := top 53
abbrev s__law_standing : Stmt := top 54
abbrev s__law_spread : Stmt := top 55
abbrev s__law_made : Stmt := top 56
abbrev s__law_letters : Stmt := top 57
abbrev s__law_row : Stmt := top 58
abbrev s__law_small : Stmt := top 59
abbrev s__law_right : Stmt := top 60
abbrev s_law : Stmt := top 61
abbrev s_Standing___init__ : Stmt := inClass (top 42) 0
abbrev s_Standing_numbers : Stmt := inClass (top 42) 1
abbrev s_Standing_sizes : Stmt := inClass (top 42) 2
abbrev s_Standing_mark : Stmt := inClass (top 42) 4
abbrev s_Standing___eq__ : Stmt := inClass (top 42) 5
def fa : List He.Fa := ([.glo "places_of", .glo "without_doubles", .glo "way_and_core", .glo "root_of", .glo "is_integer", .glo "is_integer_within", .glo "is_word", .glo "is_pair_of_turns", .glo "check_turns", .glo "place_before", .glo "place_behind", .glo "sizes_of", .glo "goes_round", .glo "mark_of", .glo "turned_at", .glo "opposite_greatest", .glo "place_down", .glo "behind_pair", .glo "behind_way", .glo "is_beyond", .glo "behind_repeated", .glo "even_repeats", .glo "arrows_in", .glo "behind_even", .glo "check_numbers", .glo "check_standing", .glo "turned", .glo "length", .glo "_law_cup", .glo "_law_sip"] : List He.Fa) ++ ([.glo "_law_pick", .glo "_law_push", .glo "_law_turn", .glo "_law_walk", .glo "_law_standing", .glo "_law_spread", .glo "_law_made", .glo "_law_letters", .glo "_law_row", .glo "_law_small", .glo "_law_right", .glo "law", .glo "Standing", .cls "Standing", .mkr "Standing", .noat "Standing" "_numbers", .int "GREATEST" (GR), .int "MOST_TIMES" (MT), .int "MOST_PAIRS" (200), .int "MOST_LETTERS" (12), .glo "PLACE_OF", .free "len", .free "range", .free "min", .free "max", .free "abs", .free "isinstance", .free "int", .free "bool", .free "str"] : List He.Fa) ++ ([.free "tuple", .free "list", .free "all", .free "enumerate", .free "sum", .free "divmod"] : List He.Fa)
def fn : List He5.DefA := ([atG "places_of" s_places_of, atG "without_doubles" s_without_doubles, atG "way_and_core" s_way_and_core, atG "root_of" s_root_of, atG "is_integer" s_is_integer, atG "is_integer_within" s_is_integer_within, atG "is_word" s_is_word, atG "is_pair_of_turns" s_is_pair_of_turns, atG "check_turns" s_check_turns, atG "place_before" s_place_before, atG "place_behind" s_place_behind, atG "sizes_of" s_sizes_of, atG "goes_round" s_goes_round, atG "mark_of" s_mark_of, atG "turned_at" s_turned_at, atG "opposite_greatest" s_opposite_greatest, atG "place_down" s_place_down, atG "behind_pair" s_behind_pair, atG "behind_way" s_behind_way, atG "is_beyond" s_is_beyond, atG "behind_repeated" s_behind_repeated, atG "even_repeats" s_even_repeats, atG "arrows_in" s_arrows_in, atG "behind_even" s_behind_even, atG "check_numbers" s_check_numbers, atG "check_standing" s_check_standing, atG "turned" s_turned, atG "length" s_length, atG "_law_cup" s__law_cup, atG "_law_sip" s__law_sip] : List He5.DefA) ++ ([atG "_law_pick" s__law_pick, atG "_law_push" s__law_push, atG "_law_turn" s__law_turn, atG "_law_walk" s__law_walk, atG "_law_standing" s__law_standing, atG "_law_spread" s__law_spread, atG "_law_made" s__law_made, atG "_law_letters" s__law_letters, atG "_law_row" s__law_row, atG "_law_small" s__law_small, atG "_law_right" s__law_right, atG "law" s_law, atM "Standing" "__init__" "Standing.__init__" s_Standing___init__, atP "Standing" "numbers" "Standing.numbers" s_Standing_numbers, atP "Standing" "sizes" "Standing.sizes" s_Standing_sizes, atP "Standing" "mark" "Standing.mark" s_Standing_mark, atM "Standing" "__eq__" "Standing.__eq__" s_Standing___eq__] : List He5.DefA)
def ts : List He.Tab := [(fun K => He.ga K "PLACE_OF", ["a", "b", "c"])]
def ex (K : PySem.W.Frag) : Bool := propOk K "Standing" "numbers" && (propOk K "Standing" "sizes" && (propOk K "Standing" "mark" && (eqOk K "Standing" && (isOk K "Standing" && (He.valsB K (He.ga K "PLACE_OF") [("a", .int 0), ("b", .int 1), ("c", .int 2)])))))
def tabsOf (K : PySem.W.Frag) : List (Option (List (Option (Str × Int)))) := ts.map fun t => He.dicW K (t.1 K)
def tabsAt (w : World) : List (Option (List (Option (Str × Int)))) := ts.map fun t => some (He.keysIn w.params t.2)
abbrev Seen : Type := (He.AlD × List (Option (List (Option (Str × Int))))) × Bool
def part (n : Nat) (g : Addr → Option Obj) : PySem.W.Frag := He.frG g (He5.asA g n)
def looks (n : Nat) (g : Addr → Option Obj) : Seen := ((He5.obsA fa fn (part n g), tabsOf (part n g)), ex (part n g))
def hook (n : Nat) : PySem.W.Hook where
  α := Seen
  obs s := looks n s.heap.get?
  val w := ((He5.valA fn, tabsAt w), true)
  says w h := ∃ K : PySem.W.Frag, K.In h ∧ He5.SaysA fa fn K ∧ tabsOf K = tabsAt w ∧ ex K = true
  of _ _ e := ⟨_, He.frG_in, congrArg (fun z : Seen => z.1.1) e, congrArg (fun z : Seen => z.1.2) e, congrArg Prod.snd e⟩
  keeps _ _ _ z k := let ⟨K, i, c⟩ := z; ⟨K, PySem.W.Frag.In.keeps i k, c⟩
structure Top (w : World) (K : PySem.W.Frag) (mg : Str → Option Value) : Prop where
  s : He5.SaysA fa fn K
  t : tabsOf K = tabsAt w
  e : ex K = true
  x : ∃ h : Heap, K.In h ∧ h.Ns mainGlobals mg
section
variable {w : World} {K : PySem.W.Frag} {mg : Str → Option Value}
theorem Top.tab (T : Top w K mg) (i : Nat) {t : He.Tab} (h : ts[i]? = some t := by rfl) : ∃ es n, KDict K w (t.1 K) es n := by
  have e : (ts.map fun t => He.dicW K (t.1 K))[i]? = (ts.map fun t => some (He.keysIn w.params t.2))[i]? := congrArg (fun z : List (Option (List (Option (Str × Int)))) => z[i]?) T.t
  rw [List.getElem?_map, List.getElem?_map, h] at e
  exact He.dicW_ok (Option.some.inj e)
theorem Top.g_places_of (T : Top w K mg) : mg "places_of" = some (.ref (He.ga K "places_of")) := let ⟨_, X, G⟩ := T.x; He.glo_ok X G (T.s.fact 0)
theorem Top.g_without_doubles (T : Top w K mg) : mg "without_doubles" = some (.ref (He.ga K "without_doubles")) := let ⟨_, X, G⟩ := T.x; He.glo_ok X G (T.s.fact 1)
theorem Top.g_way_and_core (T : Top w K mg) : mg "way_and_core" = some (.ref (He.ga K "way_and_core")) := let ⟨_, X, G⟩ := T.x; He.glo_ok X G (T.s.fact 2)
theorem Top.g_root_of (T : Top w K mg) : mg "root_of" = some (.ref (He.ga K "root_of")) := let ⟨_, X, G⟩ := T.x; He.glo_ok X G (T.s.fact 3)
theorem Top.g_is_integer (T : Top w K mg) : mg "is_integer" = some (.ref (He.ga K "is_integer")) := let ⟨_, X, G⟩ := T.x; He.glo_ok X G (T.s.fact 4)
theorem Top.g_is_integer_within (T : Top w K mg) : mg "is_integer_within" = some (.ref (He.ga K "is_integer_within")) := let ⟨_, X, G⟩ := T.x; He.glo_ok X G (T.s.fact 5)
theorem Top.g_is_word (T : Top w K mg) : mg "is_word" = some (.ref (He.ga K "is_word")) := let ⟨_, X, G⟩ := T.x; He.glo_ok X G (T.s.fact 6)
theorem Top.g_is_pair_of_turns (T : Top w K mg) : mg "is_pair_of_turns" = some (.ref (He.ga K "is_pair_of_turns")) := let ⟨_, X, G⟩ := T.x; He.glo_ok X G (T.s.fact 7)
theorem Top.g_check_turns (T : Top w K mg) : mg "check_turns" = some (.ref (He.ga K "check_turns")) := let ⟨_, X, G⟩ := T.x; He.glo_ok X G (T.s.fact 8)
theorem Top.g_place_before (T : Top w K mg) : mg "place_before" = some (.ref (He.ga K "place_before")) := let ⟨_, X, G⟩ := T.x; He.glo_ok X G (T.s.fact 9)
theorem Top.g_place_behind (T : Top w K mg) : mg "place_behind" = some (.ref (He.ga K "place_behind")) := let ⟨_, X, G⟩ := T.x; He.glo_ok X G (T.s.fact 10)
theorem Top.g_sizes_of (T : Top w K mg) : mg "sizes_of" = some (.ref (He.ga K "sizes_of")) := let ⟨_, X, G⟩ := T.x; He.glo_ok X G (T.s.fact 11)
theorem Top.g_goes_round (T : Top w K mg) : mg "goes_round" = some (.ref (He.ga K "goes_round")) := let ⟨_, X, G⟩ := T.x; He.glo_ok X G (T.s.fact 12)
theorem Top.g_mark_of (T : Top w K mg) : mg "mark_of" = some (.ref (He.ga K "mark_of")) := let ⟨_, X, G⟩ := T.x; He.glo_ok X G (T.s.fact 13)
theorem Top.g_turned_at (T : Top w K mg) : mg "turned_at" = some (.ref (He.ga K "turned_at")) := let ⟨_, X, G⟩ := T.x; He.glo_ok X G (T.s.fact 14)
theorem Top.g_opposite_greatest (T : Top w K mg) : mg "opposite_greatest" = some (.ref (He.ga K "opposite_greatest")) := let ⟨_, X, G⟩ := T.x; He.glo_ok X G (T.s.fact 15)
theorem Top.g_place_down (T : Top w K mg) : mg "place_down" = some (.ref (He.ga K "place_down")) := let ⟨_, X, G⟩ := T.x; He.glo_ok X G (T.s.fact 16)
theorem Top.g_behind_pair (T : Top w K mg) : mg "behind_pair" = some (.ref (He.ga K "behind_pair")) := let ⟨_, X, G⟩ := T.x; He.glo_ok X G (T.s.fact 17)
theorem Top.g_behind_way (T : Top w K mg) : mg "behind_way" = some (.ref (He.ga K "behind_way")) := let ⟨_, X, G⟩ := T.x; He.glo_ok X G (T.s.fact 18)
theorem Top.g_is_beyond (T : Top w K mg) : mg "is_beyond" = some (.ref (He.ga K "is_beyond")) := let ⟨_, X, G⟩ := T.x; He.glo_ok X G (T.s.fact 19)
theorem Top.g_behind_repeated (T : Top w K mg) : mg "behind_repeated" = some (.ref (He.ga K "behind_repeated")) := let ⟨_, X, G⟩ := T.x; He.glo_ok X G (T.s.fact 20)
theorem Top.g_even_repeats (T : Top w K mg) : mg "even_repeats" = some (.ref (He.ga K "even_repeats")) := let ⟨_, X, G⟩ := T.x; He.glo_ok X G (T.s.fact 21)
theorem Top.g_arrows_in (T : Top w K mg) : mg "arrows_in" = some (.ref (He.ga K "arrows_in")) := let ⟨_, X, G⟩ := T.x; He.glo_ok X G (T.s.fact 22)
theorem Top.g_behind_even (T : Top w K mg) : mg "behind_even" = some (.ref (He.ga K "behind_even")) := let ⟨_, X, G⟩ := T.x; He.glo_ok X G (T.s.fact 23)
theorem Top.g_check_numbers (T : Top w K mg) : mg "check_numbers" = some (.ref (He.ga K "check_numbers")) := let ⟨_, X, G⟩ := T.x; He.glo_ok X G (T.s.fact 24)
theorem Top.g_check_standing (T : Top w K mg) : mg "check_standing" = some (.ref (He.ga K "check_standing")) := let ⟨_, X, G⟩ := T.x; He.glo_ok X G (T.s.fact 25)
theorem Top.g_turned (T : Top w K mg) : mg "turned" = some (.ref (He.ga K "turned")) := let ⟨_, X, G⟩ := T.x; He.glo_ok X G (T.s.fact 26)
theorem Top.g_length (T : Top w K mg) : mg "length" = some (.ref (He.ga K "length")) := let ⟨_, X, G⟩ := T.x; He.glo_ok X G (T.s.fact 27)
theorem Top.g__law_cup (T : Top w K mg) : mg "_law_cup" = some (.ref (He.ga K "_law_cup")) := let ⟨_, X, G⟩ := T.x; He.glo_ok X G (T.s.fact 28)
theorem Top.g__law_sip (T : Top w K mg) : mg "_law_sip" = some (.ref (He.ga K "_law_sip")) := let ⟨_, X, G⟩ := T.x; He.glo_ok X G (T.s.fact 29)
theorem Top.g__law_pick (T : Top w K mg) : mg "_law_pick" = some (.ref (He.ga K "_law_pick")) := let ⟨_, X, G⟩ := T.x; He.glo_ok X G (T.s.fact 30)
theorem Top.g__law_push (T : Top w K mg) : mg "_law_push" = some (.ref (He.ga K "_law_push")) := let ⟨_, X, G⟩ := T.x; He.glo_ok X G (T.s.fact 31)
theorem Top.g__law_turn (T : Top w K mg) : mg "_law_turn" = some (.ref (He.ga K "_law_turn")) := let ⟨_, X, G⟩ := T.x; He.glo_ok X G (T.s.fact 32)
theorem Top.g__law_walk (T : Top w K mg) : mg "_law_walk" = some (.ref (He.ga K "_law_walk")) := let ⟨_, X, G⟩ := T.x; He.glo_ok X G (T.s.fact 33)
theorem Top.g__law_standing (T : Top w K mg) : mg "_law_standing" = some (.ref (He.ga K "_law_standing")) := let ⟨_, X, G⟩ := T.x; He.glo_ok X G (T.s.fact 34)
theorem Top.g__law_spread (T : Top w K mg) : mg "_law_spread" = some (.ref (He.ga K "_law_spread")) := let ⟨_, X, G⟩ := T.x; He.glo_ok X G (T.s.fact 35)
theorem Top.g__law_made (T : Top w K mg) : mg "_law_made" = some (.ref (He.ga K "_law_made")) := let ⟨_, X, G⟩ := T.x; He.glo_ok X G (T.s.fact 36)
theorem Top.g__law_letters (T : Top w K mg) : mg "_law_letters" = some (.ref (He.ga K "_law_letters")) := let ⟨_, X, G⟩ := T.x; He.glo_ok X G (T.s.fact 37)
theorem Top.g__law_row (T : Top w K mg) : mg "_law_row" = some (.ref (He.ga K "_law_row")) := let ⟨_, X, G⟩ := T.x; He.glo_ok X G (T.s.fact 38)
theorem Top.g__law_small (T : Top w K mg) : mg "_law_small" = some (.ref (He.ga K "_law_small")) := let ⟨_, X, G⟩ := T.x; He.glo_ok X G (T.s.fact 39)
theorem Top.g__law_right (T : Top w K mg) : mg "_law_right" = some (.ref (He.ga K "_law_right")) := let ⟨_, X, G⟩ := T.x; He.glo_ok X G (T.s.fact 40)
theorem Top.g_law (T : Top w K mg) : mg "law" = some (.ref (He.ga K "law")) := let ⟨_, X, G⟩ := T.x; He.glo_ok X G (T.s.fact 41)
theorem Top.g_Standing (T : Top w K mg) : mg "Standing" = some (.ref (He.ga K "Standing")) := let ⟨_, X, G⟩ := T.x; He.glo_ok X G (T.s.fact 42)
theorem Top.c_Standing (T : Top w K mg) : Cls K (He.ga K "Standing") := He.cls_ok (T.s.fact 43)
theorem Top.m_Standing (T : Top w K mg) : Mk K (He.ga K "Standing") (He.ma K (He.ga K "Standing") "__init__") := He.mkr_ok (T.s.fact 44)
theorem Top.na_Standing_numbers (T : Top w K mg) : NoAttr K (He.ga K "Standing") "_numbers" := He.noat_ok (T.s.fact 45)
theorem Top.n_GREATEST (T : Top w K mg) : ∃ u, mg "GREATEST" = some u ∧ RelV (.int (GR)) u := let ⟨_, X, G⟩ := T.x; let ⟨t, e⟩ := He.int_ok X G (T.s.fact 46); ⟨_, e, t, rfl⟩
theorem Top.n_MOST_TIMES (T : Top w K mg) : ∃ u, mg "MOST_TIMES" = some u ∧ RelV (.int (MT)) u := let ⟨_, X, G⟩ := T.x; let ⟨t, e⟩ := He.int_ok X G (T.s.fact 47); ⟨_, e, t, rfl⟩
theorem Top.n_MOST_PAIRS (T : Top w K mg) : ∃ u, mg "MOST_PAIRS" = some u ∧ RelV (.int (200)) u := let ⟨_, X, G⟩ := T.x; let ⟨t, e⟩ := He.int_ok X G (T.s.fact 48); ⟨_, e, t, rfl⟩
theorem Top.n_MOST_LETTERS (T : Top w K mg) : ∃ u, mg "MOST_LETTERS" = some u ∧ RelV (.int (12)) u := let ⟨_, X, G⟩ := T.x; let ⟨t, e⟩ := He.int_ok X G (T.s.fact 49); ⟨_, e, t, rfl⟩
theorem Top.g_PLACE_OF (T : Top w K mg) : mg "PLACE_OF" = some (.ref (He.ga K "PLACE_OF")) := let ⟨_, X, G⟩ := T.x; He.glo_ok X G (T.s.fact 50)
theorem Top.b_len (T : Top w K mg) : mg "len" = none := let ⟨_, X, G⟩ := T.x; He.free_ok X G (T.s.fact 51)
theorem Top.b_range (T : Top w K mg) : mg "range" = none := let ⟨_, X, G⟩ := T.x; He.free_ok X G (T.s.fact 52)
theorem Top.b_min (T : Top w K mg) : mg "min" = none := let ⟨_, X, G⟩ := T.x; He.free_ok X G (T.s.fact 53)
theorem Top.b_max (T : Top w K mg) : mg "max" = none := let ⟨_, X, G⟩ := T.x; He.free_ok X G (T.s.fact 54)
theorem Top.b_abs (T : Top w K mg) : mg "abs" = none := let ⟨_, X, G⟩ := T.x; He.free_ok X G (T.s.fact 55)
theorem Top.b_isinstance (T : Top w K mg) : mg "isinstance" = none := let ⟨_, X, G⟩ := T.x; He.free_ok X G (T.s.fact 56)
theorem Top.b_int (T : Top w K mg) : mg "int" = none := let ⟨_, X, G⟩ := T.x; He.free_ok X G (T.s.fact 57)
theorem Top.b_bool (T : Top w K mg) : mg "bool" = none := let ⟨_, X, G⟩ := T.x; He.free_ok X G (T.s.fact 58)
theorem Top.b_str (T : Top w K mg) : mg "str" = none := let ⟨_, X, G⟩ := T.x; He.free_ok X G (T.s.fact 59)
theorem Top.b_tuple (T : Top w K mg) : mg "tuple" = none := let ⟨_, X, G⟩ := T.x; He.free_ok X G (T.s.fact 60)
theorem Top.b_list (T : Top w K mg) : mg "list" = none := let ⟨_, X, G⟩ := T.x; He.free_ok X G (T.s.fact 61)
theorem Top.b_all (T : Top w K mg) : mg "all" = none := let ⟨_, X, G⟩ := T.x; He.free_ok X G (T.s.fact 62)
theorem Top.b_enumerate (T : Top w K mg) : mg "enumerate" = none := let ⟨_, X, G⟩ := T.x; He.free_ok X G (T.s.fact 63)
theorem Top.b_sum (T : Top w K mg) : mg "sum" = none := let ⟨_, X, G⟩ := T.x; He.free_ok X G (T.s.fact 64)
theorem Top.b_divmod (T : Top w K mg) : mg "divmod" = none := let ⟨_, X, G⟩ := T.x; He.free_ok X G (T.s.fact 65)
theorem Top.f_places_of (T : Top w K mg) : ∃ fd, Fun K "places_of" "places_of" s_places_of (He.ga K "places_of") fd := let ⟨fd, F⟩ := T.s.def_ (d := atG "places_of" s_places_of) 0; ⟨fd, He5.fun_of F⟩
theorem Top.f_without_doubles (T : Top w K mg) : ∃ fd, Fun K "without_doubles" "without_doubles" s_without_doubles (He.ga K "without_doubles") fd := let ⟨fd, F⟩ := T.s.def_ (d := atG "without_doubles" s_without_doubles) 1; ⟨fd, He5.fun_of F⟩
theorem Top.f_way_and_core (T : Top w K mg) : ∃ fd, Fun K "way_and_core" "way_and_core" s_way_and_core (He.ga K "way_and_core") fd := let ⟨fd, F⟩ := T.s.def_ (d := atG "way_and_core" s_way_and_core) 2; ⟨fd, He5.fun_of F⟩
theorem Top.f_root_of (T : Top w K mg) : ∃ fd, Fun K "root_of" "root_of" s_root_of (He.ga K "root_of") fd := let ⟨fd, F⟩ := T.s.def_ (d := atG "root_of" s_root_of) 3; ⟨fd, He5.fun_of F⟩
theorem Top.f_is_integer (T : Top w K mg) : ∃ fd, Fun K "is_integer" "is_integer" s_is_integer (He.ga K "is_integer") fd := let ⟨fd, F⟩ := T.s.def_ (d := atG "is_integer" s_is_integer) 4; ⟨fd, He5.fun_of F⟩
theorem Top.f_is_integer_within (T : Top w K mg) : ∃ fd, Fun K "is_integer_within" "is_integer_within" s_is_integer_within (He.ga K "is_integer_within") fd := let ⟨fd, F⟩ := T.s.def_ (d := atG "is_integer_within" s_is_integer_within) 5; ⟨fd, He5.fun_of F⟩
theorem Top.f_is_word (T : Top w K mg) : ∃ fd, Fun K "is_word" "is_word" s_is_word (He.ga K "is_word") fd := let ⟨fd, F⟩ := T.s.def_ (d := atG "is_word" s_is_word) 6; ⟨fd, He5.fun_of F⟩
theorem Top.f_is_pair_of_turns (T : Top w K mg) : ∃ fd, Fun K "is_pair_of_turns" "is_pair_of_turns" s_is_pair_of_turns (He.ga K "is_pair_of_turns") fd := let ⟨fd, F⟩ := T.s.def_ (d := atG "is_pair_of_turns" s_is_pair_of_turns) 7; ⟨fd, He5.fun_of F⟩
theorem Top.f_check_turns (T : Top w K mg) : ∃ fd, Fun K "check_turns" "check_turns" s_check_turns (He.ga K "check_turns") fd := let ⟨fd, F⟩ := T.s.def_ (d := atG "check_turns" s_check_turns) 8; ⟨fd, He5.fun_of F⟩
theorem Top.f_place_before (T : Top w K mg) : ∃ fd, Fun K "place_before" "place_before" s_place_before (He.ga K "place_before") fd := let ⟨fd, F⟩ := T.s.def_ (d := atG "place_before" s_place_before) 9; ⟨fd, He5.fun_of F⟩
theorem Top.f_place_behind (T : Top w K mg) : ∃ fd, Fun K "place_behind" "place_behind" s_place_behind (He.ga K "place_behind") fd := let ⟨fd, F⟩ := T.s.def_ (d := atG "place_behind" s_place_behind) 10; ⟨fd, He5.fun_of F⟩
theorem Top.f_sizes_of (T : Top w K mg) : ∃ fd, Fun K "sizes_of" "sizes_of" s_sizes_of (He.ga K "sizes_of") fd := let ⟨fd, F⟩ := T.s.def_ (d := atG "sizes_of" s_sizes_of) 11; ⟨fd, He5.fun_of F⟩
theorem Top.f_goes_round (T : Top w K mg) : ∃ fd, Fun K "goes_round" "goes_round" s_goes_round (He.ga K "goes_round") fd := let ⟨fd, F⟩ := T.s.def_ (d := atG "goes_round" s_goes_round) 12; ⟨fd, He5.fun_of F⟩
theorem Top.f_mark_of (T : Top w K mg) : ∃ fd, Fun K "mark_of" "mark_of" s_mark_of (He.ga K "mark_of") fd := let ⟨fd, F⟩ := T.s.def_ (d := atG "mark_of" s_mark_of) 13; ⟨fd, He5.fun_of F⟩
theorem Top.f_turned_at (T : Top w K mg) : ∃ fd, Fun K "turned_at" "turned_at" s_turned_at (He.ga K "turned_at") fd := let ⟨fd, F⟩ := T.s.def_ (d := atG "turned_at" s_turned_at) 14; ⟨fd, He5.fun_of F⟩
theorem Top.f_opposite_greatest (T : Top w K mg) : ∃ fd, Fun K "opposite_greatest" "opposite_greatest" s_opposite_greatest (He.ga K "opposite_greatest") fd := let ⟨fd, F⟩ := T.s.def_ (d := atG "opposite_greatest" s_opposite_greatest) 15; ⟨fd, He5.fun_of F⟩
theorem Top.f_place_down (T : Top w K mg) : ∃ fd, Fun K "place_down" "place_down" s_place_down (He.ga K "place_down") fd := let ⟨fd, F⟩ := T.s.def_ (d := atG "place_down" s_place_down) 16; ⟨fd, He5.fun_of F⟩
theorem Top.f_behind_pair (T : Top w K mg) : ∃ fd, Fun K "behind_pair" "behind_pair" s_behind_pair (He.ga K "behind_pair") fd := let ⟨fd, F⟩ := T.s.def_ (d := atG "behind_pair" s_behind_pair) 17; ⟨fd, He5.fun_of F⟩
theorem Top.f_behind_way (T : Top w K mg) : ∃ fd, Fun K "behind_way" "behind_way" s_behind_way (He.ga K "behind_way") fd := let ⟨fd, F⟩ := T.s.def_ (d := atG "behind_way" s_behind_way) 18; ⟨fd, He5.fun_of F⟩
theorem Top.f_is_beyond (T : Top w K mg) : ∃ fd, Fun K "is_beyond" "is_beyond" s_is_beyond (He.ga K "is_beyond") fd := let ⟨fd, F⟩ := T.s.def_ (d := atG "is_beyond" s_is_beyond) 19; ⟨fd, He5.fun_of F⟩
theorem Top.f_behind_repeated (T : Top w K mg) : ∃ fd, Fun K "behind_repeated" "behind_repeated" s_behind_repeated (He.ga K "behind_repeated") fd := let ⟨fd, F⟩ := T.s.def_ (d := atG "behind_repeated" s_behind_repeated) 20; ⟨fd, He5.fun_of F⟩
theorem Top.f_even_repeats (T : Top w K mg) : ∃ fd, Fun K "even_repeats" "even_repeats" s_even_repeats (He.ga K "even_repeats") fd := let ⟨fd, F⟩ := T.s.def_ (d := atG "even_repeats" s_even_repeats) 21; ⟨fd, He5.fun_of F⟩
theorem Top.f_arrows_in (T : Top w K mg) : ∃ fd, Fun K "arrows_in" "arrows_in" s_arrows_in (He.ga K "arrows_in") fd := let ⟨fd, F⟩ := T.s.def_ (d := atG "arrows_in" s_arrows_in) 22; ⟨fd, He5.fun_of F⟩
theorem Top.f_behind_even (T : Top w K mg) : ∃ fd, Fun K "behind_even" "behind_even" s_behind_even (He.ga K "behind_even") fd := let ⟨fd, F⟩ := T.s.def_ (d := atG "behind_even" s_behind_even) 23; ⟨fd, He5.fun_of F⟩
theorem Top.f_check_numbers (T : Top w K mg) : ∃ fd, Fun K "check_numbers" "check_numbers" s_check_numbers (He.ga K "check_numbers") fd := let ⟨fd, F⟩ := T.s.def_ (d := atG "check_numbers" s_check_numbers) 24; ⟨fd, He5.fun_of F⟩
theorem Top.f_check_standing (T : Top w K mg) : ∃ fd, Fun K "check_standing" "check_standing" s_check_standing (He.ga K "check_standing") fd := let ⟨fd, F⟩ := T.s.def_ (d := atG "check_standing" s_check_standing) 25; ⟨fd, He5.fun_of F⟩
theorem Top.f_turned (T : Top w K mg) : ∃ fd, Fun K "turned" "turned" s_turned (He.ga K "turned") fd := let ⟨fd, F⟩ := T.s.def_ (d := atG "turned" s_turned) 26; ⟨fd, He5.fun_of F⟩
theorem Top.f_length (T : Top w K mg) : ∃ fd, Fun K "length" "length" s_length (He.ga K "length") fd := let ⟨fd, F⟩ := T.s.def_ (d := atG "length" s_length) 27; ⟨fd, He5.fun_of F⟩
theorem Top.f__law_cup (T : Top w K mg) : ∃ fd, Fun K "_law_cup" "_law_cup" s__law_cup (He.ga K "_law_cup") fd := let ⟨fd, F⟩ := T.s.def_ (d := atG "_law_cup" s__law_cup) 28; ⟨fd, He5.fun_of F⟩
theorem Top.f__law_sip (T : Top w K mg) : ∃ fd, Fun K "_law_sip" "_law_sip" s__law_sip (He.ga K "_law_sip") fd := let ⟨fd, F⟩ := T.s.def_ (d := atG "_law_sip" s__law_sip) 29; ⟨fd, He5.fun_of F⟩
theorem Top.f__law_pick (T : Top w K mg) : ∃ fd, Fun K "_law_pick" "_law_pick" s__law_pick (He.ga K "_law_pick") fd := let ⟨fd, F⟩ := T.s.def_ (d := atG "_law_pick" s__law_pick) 30; ⟨fd, He5.fun_of F⟩
theorem Top.f__law_push (T : Top w K mg) : ∃ fd, Fun K "_law_push" "_law_push" s__law_push (He.ga K "_law_push") fd := let ⟨fd, F⟩ := T.s.def_ (d := atG "_law_push" s__law_push) 31; ⟨fd, He5.fun_of F⟩
theorem Top.f__law_turn (T : Top w K mg) : ∃ fd, Fun K "_law_turn" "_law_turn" s__law_turn (He.ga K "_law_turn") fd := let ⟨fd, F⟩ := T.s.def_ (d := atG "_law_turn" s__law_turn) 32; ⟨fd, He5.fun_of F⟩
theorem Top.f__law_walk (T : Top w K mg) : ∃ fd, Fun K "_law_walk" "_law_walk" s__law_walk (He.ga K "_law_walk") fd := let ⟨fd, F⟩ := T.s.def_ (d := atG "_law_walk" s__law_walk) 33; ⟨fd, He5.fun_of F⟩
theorem Top.f__law_standing (T : Top w K mg) : ∃ fd, Fun K "_law_standing" "_law_standing" s__law_standing (He.ga K "_law_standing") fd := let ⟨fd, F⟩ := T.s.def_ (d := atG "_law_standing" s__law_standing) 34; ⟨fd, He5.fun_of F⟩
theorem Top.f__law_spread (T : Top w K mg) : ∃ fd, Fun K "_law_spread" "_law_spread" s__law_spread (He.ga K "_law_spread") fd := let ⟨fd, F⟩ := T.s.def_ (d := atG "_law_spread" s__law_spread) 35; ⟨fd, He5.fun_of F⟩
theorem Top.f__law_made (T : Top w K mg) : ∃ fd, Fun K "_law_made" "_law_made" s__law_made (He.ga K "_law_made") fd := let ⟨fd, F⟩ := T.s.def_ (d := atG "_law_made" s__law_made) 36; ⟨fd, He5.fun_of F⟩
theorem Top.f__law_letters (T : Top w K mg) : ∃ fd, Fun K "_law_letters" "_law_letters" s__law_letters (He.ga K "_law_letters") fd := let ⟨fd, F⟩ := T.s.def_ (d := atG "_law_letters" s__law_letters) 37; ⟨fd, He5.fun_of F⟩
theorem Top.f__law_row (T : Top w K mg) : ∃ fd, Fun K "_law_row" "_law_row" s__law_row (He.ga K "_law_row") fd := let ⟨fd, F⟩ := T.s.def_ (d := atG "_law_row" s__law_row) 38; ⟨fd, He5.fun_of F⟩
theorem Top.f__law_small (T : Top w K mg) : ∃ fd, Fun K "_law_small" "_law_small" s__law_small (He.ga K "_law_small") fd := let ⟨fd, F⟩ := T.s.def_ (d := atG "_law_small" s__law_small) 39; ⟨fd, He5.fun_of F⟩
theorem Top.f__law_right (T : Top w K mg) : ∃ fd, Fun K "_law_right" "_law_right" s__law_right (He.ga K "_law_right") fd := let ⟨fd, F⟩ := T.s.def_ (d := atG "_law_right" s__law_right) 40; ⟨fd, He5.fun_of F⟩
theorem Top.f_law (T : Top w K mg) : ∃ fd, Fun K "law" "law" s_law (He.ga K "law") fd := let ⟨fd, F⟩ := T.s.def_ (d := atG "law" s_law) 41; ⟨fd, He5.fun_of F⟩
theorem Top.f_Standing___init__ (T : Top w K mg) : ∃ fd, Fun K "__init__" "Standing.__init__" s_Standing___init__ (method K "Standing" "__init__") fd := let ⟨fd, F⟩ := T.s.def_ (d := atM "Standing" "__init__" "Standing.__init__" s_Standing___init__) 42; ⟨fd, He5.fun_of F⟩
theorem Top.f_Standing_numbers (T : Top w K mg) : ∃ fd, Fun K "numbers" "Standing.numbers" s_Standing_numbers (getter K "Standing" "numbers") fd := let ⟨fd, F⟩ := T.s.def_ (d := atP "Standing" "numbers" "Standing.numbers" s_Standing_numbers) 43; ⟨fd, He5.fun_of F⟩
theorem Top.f_Standing_sizes (T : Top w K mg) : ∃ fd, Fun K "sizes" "Standing.sizes" s_Standing_sizes (getter K "Standing" "sizes") fd := let ⟨fd, F⟩ := T.s.def_ (d := atP "Standing" "sizes" "Standing.sizes" s_Standing_sizes) 44; ⟨fd, He5.fun_of F⟩
theorem Top.f_Standing_mark (T : Top w K mg) : ∃ fd, Fun K "mark" "Standing.mark" s_Standing_mark (getter K "Standing" "mark") fd := let ⟨fd, F⟩ := T.s.def_ (d := atP "Standing" "mark" "Standing.mark" s_Standing_mark) 45; ⟨fd, He5.fun_of F⟩
theorem Top.f_Standing___eq__ (T : Top w K mg) : ∃ fd, Fun K "__eq__" "Standing.__eq__" s_Standing___eq__ (method K "Standing" "__eq__") fd := let ⟨fd, F⟩ := T.s.def_ (d := atM "Standing" "__eq__" "Standing.__eq__" s_Standing___eq__) 46; ⟨fd, He5.fun_of F⟩
theorem Top.x_prop_Standing_numbers (T : Top w K mg) : propOk K "Standing" "numbers" = true := (He.ba T.e).1
theorem Top.x_prop_Standing_sizes (T : Top w K mg) : propOk K "Standing" "sizes" = true := (He.ba (He.ba T.e).2).1
theorem Top.x_prop_Standing_mark (T : Top w K mg) : propOk K "Standing" "mark" = true := (He.ba (He.ba (He.ba T.e).2).2).1
theorem Top.x_eq_Standing (T : Top w K mg) : eqOk K "Standing" = true := (He.ba (He.ba (He.ba (He.ba T.e).2).2).2).1
theorem Top.x_is_Standing (T : Top w K mg) : isOk K "Standing" = true := (He.ba (He.ba (He.ba (He.ba (He.ba T.e).2).2).2).2).1
theorem Top.x_val_PLACE_OF (T : Top w K mg) : He.valsB K (He.ga K "PLACE_OF") [("a", .int 0), ("b", .int 1), ("c", .int 2)] = true := (He.ba (He.ba (He.ba (He.ba (He.ba T.e).2).2).2).2).2
theorem Top.d_PLACE_OF (T : Top w K mg) : ∃ es n, KDict K w (He.ga K "PLACE_OF") es n := T.tab 0
end
end At

namespace At
open L2 PyProof.Rows PySem.Spec PySem
abbrev R : PySem.W.OpenRow := PySem.W.OpenLaw.row PySem.Challenge.rw_arrowtrios_k31_whole_rows_put_together
abbrev hk : PySem.W.Hook := hook 8
def ob (s : PySem.W.SharedT) : Seen := looks 8 (HandSHeadRun.getT s)
theorem ob_eq (s : PySem.W.SharedT) : ob s = hk.obs s.abs := congrArg (looks 8) (funext (HandSHeadRun.getT_eq s))
def loose : List Str := (["_wall", "WrongValue", "NotAStanding", "InvalidNumbers", "InvalidTurns", "NoAnswer", "TooGreat", "GREATEST", "MOST_TIMES", "MOST_PAIRS", "MOST_LETTERS", "PLACE_OF", "places_of", "without_doubles", "way_and_core", "root_of", "is_integer", "is_integer_within", "is_word", "is_pair_of_turns", "check_turns", "place_before", "place_behind", "sizes_of", "goes_round", "mark_of", "turned_at", "opposite_greatest", "place_down", "behind_pair"] : List Str) ++ (["behind_way", "is_beyond", "behind_repeated", "even_repeats", "arrows_in", "behind_even", "Standing", "check_numbers", "check_standing", "turned", "length", "_law_cup", "_law_sip", "_law_pick", "_law_push", "_law_turn", "_law_walk", "_law_standing", "_law_spread", "_law_made", "_law_letters", "_law_row", "_law_small", "_law_right"] : List Str)
theorem run0 (w : World) : HandSHeadRun.RunEq R (PySem.W.view R.prog [61]) hk ob 9000 loose (w.withFollow "special-get-raises" false) := by
  intro os
  kernel_rfl
theorem run1 (w : World) : HandSHeadRun.RunEq R (PySem.W.view R.prog [61]) hk ob 9000 loose (w.withFollow "special-get-raises" true) := by
  intro os
  kernel_rfl
theorem run (w : World) : HandSHeadRun.RunEq R (PySem.W.view R.prog [61]) hk ob 9000 loose w := PySem.W.byRow2 "special-get-raises" (P := fun w => HandSHeadRun.RunEq R (PySem.W.view R.prog [61]) hk ob 9000 loose w) run0 run1 w
end At

local macro_rules | `(tactic| walk_at "mem") => `(tactic| first
  | assumption
  | exact L2.upd_same
  | (refine At.mem_new (by assumption) ?_; walk_at "mem")
  | (refine At.mem_ext (by assumption) ?_; walk_at "mem"))
local macro_rules | `(tactic| walk_at "side") => `(tactic| first
  | decide
  | omega
  | (dsimp only; omega)
  | exact Or.inl ⟨by omega, by omega⟩
  | exact Or.inr ⟨by omega, by omega⟩
  | exact ⟨by omega, by omega⟩)
local macro_rules | `(tactic| walk_at "go") => `(tactic| first
  | ((with_reducible refine' At.go_var ?hvar ?_); (case hvar => rfl))
  | with_reducible refine At.go_c ?_
  | with_reducible refine At.go_seq_set ?_
  | with_reducible refine At.go_seq_drop ?_
  | with_reducible refine At.go_seq_if ?_
  | with_reducible refine At.go_seq_asg ?_
  | with_reducible refine At.go_seq ?_
  | with_reducible refine At.go_set ?_
  | with_reducible refine At.go_asg ?_
  | with_reducible refine At.go_ret ?_
  | with_reducible refine At.go_retN ?_
  | with_reducible refine At.go_drop ?_
  | with_reducible refine At.go_ifS ?_
  | with_reducible refine At.go_op ?_
  | with_reducible refine At.go_un ?_
  | with_reducible refine At.go_rI0 ?_
  | with_reducible refine At.go_rU ?_
  | ((with_reducible refine' At.go_rI ?hside ?_); (case hside => walk_at "side"))
  | with_reducible refine At.go_rEqI ?_
  | with_reducible refine At.go_rNeI ?_
  | with_reducible refine At.go_rEqS ?_
  | with_reducible refine At.go_rNeS ?_
  | with_reducible refine At.go_bl ?_
  | with_reducible refine At.go_test ?_
  | with_reducible refine At.go_tB ?_
  | with_reducible refine At.go_and ?_
  | with_reducible refine At.go_or ?_
  | with_reducible refine At.go_not ?_
  | with_reducible refine At.go_andV ?_
  | with_reducible refine At.go_orV ?_
  | with_reducible refine At.go_notV ?_
  | with_reducible refine At.go_tIf ?_
  | with_reducible refine At.go_chain ?_
  | with_reducible refine At.go_cons ?_
  | with_reducible refine At.go_nil ?_
  | with_reducible refine At.go_cb ?_
  | with_reducible refine At.go_call ?_
  | with_reducible refine At.go_tup ?_
  | with_reducible refine At.go_lst ?_
  | with_reducible refine At.go_sl ?_
  | with_reducible refine At.go_noPart ?_
  | with_reducible refine At.go_part ?_
  | with_reducible refine At.go_prop ?_
  | with_reducible refine At.go_tidx ?_
  | with_reducible refine At.go_makeR ?_
  | with_reducible refine At.go_makeK ?_
  | with_reducible refine At.go_makeS ?_
  | with_reducible refine At.go_star ?_
  | with_reducible refine At.go_make ?_
  | with_reducible refine At.go_sfld ?_
  | with_reducible refine At.go_fld ?_
  | with_reducible refine At.go_gName ?_
  | with_reducible refine At.go_gSub ?_
  | with_reducible refine At.go_gCons ?_
  | with_reducible refine At.go_gNil ?_
  | with_reducible refine At.go_par ?_
  | with_reducible refine At.go_par3 ?_
  | with_reducible refine At.go_two ?_
  | with_reducible refine At.go_three ?_
  | with_reducible refine At.go_for ?_
  | with_reducible refine At.go_iList ?_
  | with_reducible refine At.go_iTup ?_
  | with_reducible refine At.go_iStr ?_
  | with_reducible refine At.go_isS ?_
  | with_reducible refine At.go_iRng1 ?_
  | with_reducible refine At.go_iRng2 ?_
  | with_reducible refine At.go_iEnT ?_
  | with_reducible refine At.go_iteT ?_
  | with_reducible refine At.go_iteF ?_
  | with_reducible refine At.go_iteNT ?_
  | with_reducible refine At.go_iteNF ?_
  | with_reducible refine At.go_next ?_
  | with_reducible refine At.go_ipI ?_
  | with_reducible refine At.go_augS ?_
  | with_reducible refine At.go_revL ?_
  | with_reducible refine At.go_back ?_
  | with_reducible refine At.go_callN0 ?_
  | ((with_reducible refine' At.go_aug ?hvar ?_); (case hvar => rfl))
  | with_reducible refine ⟨_, rfl, ?_⟩
  | with_reducible refine ⟨_, _, rfl, ?_⟩
  | with_reducible refine ⟨_, _, rfl, rfl, ?_⟩
  | with_reducible refine ⟨Evl.sz_of (Nat.le_of_ble_eq_true rfl), ?_⟩)
local macro_rules | `(tactic| walk_at "gos") => `(tactic| repeat walk_at "go")
namespace At
open L2 PyProof.Rows PySem.Spec PySem
section
variable {base : Heap} {w : World} {K : PySem.W.Frag} {mg : Str → Option Value} {P : Program}
abbrev N_is_word : List Str := ["value", "letter"]
theorem sc_is_word : FnScope N_is_word ["value"] (defScope s_is_word) := ⟨rfl, rfl, rfl, by decide +kernel, rfl, by decide +kernel, by decide +kernel⟩
def sp_is_word (K : PySem.W.Frag) : Sp := fun vs H Q _ => ∃ ps, vs = [.str (wd ps)] ∧ 1 ≤ ps.length ∧ ps.length ≤ 12 ∧ ∀ H', Ext H H' → Q (.bl true) H'
theorem fn_is_word (T : Top w K mg) {fd : FuncData} (F : Fun K "is_word" "is_word" s_is_word (He.ga K "is_word") fd) : FnOk P w K mg base CX0 1 (He.ga K "is_word") fd ["value"] (sp_is_word K) := by
  obtain ⟨u_MOST_LETTERS, e_MOST_LETTERS, r_MOST_LETTERS⟩ := T.n_MOST_LETTERS
  obtain ⟨es_PLACE_OF, n_PLACE_OF, D_PLACE_OF⟩ := T.d_PLACE_OF
  refine F.ok sc_is_word (fun vs H Q E h => ?hlen) (fun cdv A outer s H vs Q E hr h => ⟨_, (pss_cons (ps_if (PW.pt (pw_or (pt_not (pt_val (pe_callB call_isi (by rfl) T.b_isinstance (by decide +kernel) (pa_cons (pv 0) (pa_cons (pe_bltn (v := .ty "str") (by rfl) T.b_str (by decide +kernel) rfl) pa_nil))))) (pw_or1 (pt_not (pt_chain op_le op_le pe_int (pe_callB call_len_str (by rfl) T.b_len PySem.boot_len (pa_cons (pv 0) pa_nil)) (pe_glob rfl e_MOST_LETTERS r_MOST_LETTERS)))))) (pss_one (ps_ret pe_bl)) pss_nil)
    (pss_one (ps_ret (pe_callB (cr_all rfl) (by rfl) T.b_all (by decide +kernel) (pa_cons (pe_lc (own := [("letter", 1)]) (g := gName 1) (tt := tYes) (by rfl) sc_is_word.nd (pi_str (pv 0)) (blkOk_by (own := [("letter", 1)]) (N := N_is_word) (sc := defScope s_is_word) (by decide +kernel)) (fun _ _ _ _ _ => pg_name (i := 1) sc_is_word.nd rfl (Or.inl rfl)) (fun _ _ _ _ _ => pts_nil) (fun _ _ _ _ _ => (pe_cmpR (op_in_kd' D_PLACE_OF) (pv 1) (pe_glob (v := .ref _) rfl T.g_PLACE_OF rfl) (by with_unfolding_all rfl)))) pa_nil))))), ?hrd⟩)
  case hlen =>
    obtain ⟨ps, rfl, _⟩ := h
    rfl
  case hrd =>
    obtain ⟨ps, rfl, h1, h2, q⟩ := h
    have hv : ∀ p : P3, ∃ u, PySem.W.nsIn K (He.ga K "PLACE_OF") (lt p) = some (some u) := fun p => by
      cases p
      · rw [lt_a]; exact ⟨_, (He.valsB_ok T.x_val_PLACE_OF (q := ("a", .int 0)) (by simp)).choose_spec.1⟩
      · rw [lt_b]; exact ⟨_, (He.valsB_ok T.x_val_PLACE_OF (q := ("b", .int 1)) (by simp)).choose_spec.1⟩
      · rw [lt_c]; exact ⟨_, (He.valsB_ok T.x_val_PLACE_OF (q := ("c", .int 2)) (by simp)).choose_spec.1⟩
    have hz : (wd ps).length = ps.length := wd_size ps
    walk_at "gos"
    refine go_isi (.str _) (kit_ss _) ?_
    walk_at "gos"
    refine ⟨by rw [hz]; exact Nat.le_trans h2 (by decide), ?_⟩
    rw [hz]
    walk_at "gos"
    refine go_iteYes (decide_eq_true (by omega)) ?_
    walk_at "gos"
    rw [decide_eq_true (show (ps.length : Int) ≤ 12 by omega)]
    walk_at "gos"
    refine go_lc ?_
    walk_at "gos"
    refine lc_strP (by rw [wd_size]; omega) (fun c => .bl true) (fun D nD c H' hc e QE hq => ?_) fun D nD H' e hD => ?_
    · obtain ⟨p, rfl⟩ := wd_mem hc
      walk_at "gos"
      refine ⟨rfl, ?_⟩
      walk_at "gos"
      obtain ⟨u, hu⟩ := hv p
      refine ⟨lt p, some u, rfl, rfl, hu, ?_⟩
      exact hq H' (Evl.Ex.refl _)
    · walk_at "gos"
      refine ⟨D, (wd ps).cps.toList.map (fun _ => true), rfl, SqL.of (by rw [hD, List.map_map]; rfl), ?_⟩
      rw [show ((wd ps).cps.toList.map (fun _ => true)).all id = true by simp]
      exact q H' e
theorem ok_is_word (T : Top w K mg) : OkD P w K mg base 1 (He.ga K "is_word") ["value"] (sp_is_word K) := by
  obtain ⟨fd, F⟩ := T.f_is_word
  exact ⟨fd, fn_is_word T F, F.binds (ps := ["value"]) fun _ _ _ _ _ _ us hl => match us, hl with | [_], _ => rfl, F.kp⟩
end
end At

namespace At
open L2 PyProof.Rows PySem.Spec PySem
section
variable {base : Heap} {w : World} {K : PySem.W.Frag} {mg : Str → Option Value} {P : Program}
abbrev N_is_integer : List Str := ["value"]
theorem sc_is_integer : FnScope N_is_integer ["value"] (defScope s_is_integer) := ⟨rfl, rfl, rfl, by decide +kernel, rfl, by decide +kernel, by decide +kernel⟩
def sp_is_integer (K : PySem.W.Frag) : Sp := fun vs H Q _ => ∃ i : Int, vs = [.int i] ∧ Q (.bl true) H
theorem fn_is_integer (T : Top w K mg) {fd : FuncData} (F : Fun K "is_integer" "is_integer" s_is_integer (He.ga K "is_integer") fd) : FnOk P w K mg base CX0 1 (He.ga K "is_integer") fd ["value"] (sp_is_integer K) := by
  refine F.ok sc_is_integer (fun vs H Q E h => ?hlen) (fun cdv A outer s H vs Q E hr h => ⟨_, (pss_one (ps_ret (pe_and (pe_callB call_isi (by rfl) T.b_isinstance (by decide +kernel) (pa_cons (pv 0) (pa_cons (pe_bltn (v := .ty "int") (by rfl) T.b_int (by decide +kernel) rfl) pa_nil))) (pe_one (pe_not (pe_callB call_isi (by rfl) T.b_isinstance (by decide +kernel) (pa_cons (pv 0) (pa_cons (pe_bltn (v := .ty "bool") (by rfl) T.b_bool (by decide +kernel) rfl) pa_nil)))))))), ?hrd⟩)
  case hlen =>
    obtain ⟨i, rfl, _⟩ := h
    rfl
  case hrd =>
    obtain ⟨i, rfl, q⟩ := h
    walk_at "gos"
    refine go_isi (.int i) (kit_ii _) ?_
    walk_at "gos"
    refine go_isi (.int i) (kit_ib _) ?_
    walk_at "gos"
    exact q
theorem ok_is_integer (T : Top w K mg) : OkD P w K mg base 1 (He.ga K "is_integer") ["value"] (sp_is_integer K) := by
  obtain ⟨fd, F⟩ := T.f_is_integer
  exact ⟨fd, fn_is_integer T F, F.binds (ps := ["value"]) fun _ _ _ _ _ _ us hl => match us, hl with | [_], _ => rfl, F.kp⟩
end
end At

namespace At
open L2 PyProof.Rows PySem.Spec PySem
section
variable {base : Heap} {w : World} {K : PySem.W.Frag} {mg : Str → Option Value} {P : Program}
abbrev N_is_integer_within : List Str := ["value", "least", "most"]
theorem sc_is_integer_within : FnScope N_is_integer_within ["value", "least", "most"] (defScope s_is_integer_within) := ⟨rfl, rfl, rfl, by decide +kernel, rfl, by decide +kernel, by decide +kernel⟩
def sp_is_integer_within (K : PySem.W.Frag) : Sp := fun vs H Q _ => ∃ i l m : Int, vs = [.int i, .int l, .int m] ∧ l ≤ i ∧ i ≤ m ∧ Q (.bl true) H
theorem fn_is_integer_within (T : Top w K mg) {fd : FuncData} (F : Fun K "is_integer_within" "is_integer_within" s_is_integer_within (He.ga K "is_integer_within") fd) : FnOk P w K mg base CX0 2 (He.ga K "is_integer_within") fd ["value", "least", "most"] (sp_is_integer_within K) := by
  obtain ⟨fd_is_integer, G_is_integer, b_is_integer, k_is_integer⟩ := ok_is_integer (P := P) (w := w) (base := base) T
  refine F.ok sc_is_integer_within (fun vs H Q E h => ?hlen) (fun cdv A outer s H vs Q E hr h => ⟨_, (pss_one (ps_ret (pe_and (pe_call G_is_integer (hr.mono (by decide)) (by rfl) T.g_is_integer k_is_integer b_is_integer .nil pass0 (pa_cons (pv 0) pa_nil)) (pe_one (pe_chain op_le op_le (pv 1) (pv 0) (pv 2)))))), ?hrd⟩)
  case hlen =>
    obtain ⟨i, l, m, rfl, _⟩ := h
    rfl
  case hrd =>
    obtain ⟨i, l, m, rfl, h1, h2, q⟩ := h
    walk_at "gos"
    refine ⟨i, rfl, ?_⟩
    walk_at "gos"
    refine go_iteYes (decide_eq_true h1) ?_
    walk_at "gos"
    rw [decide_eq_true h2]
    exact q
theorem ok_is_integer_within (T : Top w K mg) : OkD P w K mg base 2 (He.ga K "is_integer_within") ["value", "least", "most"] (sp_is_integer_within K) := by
  obtain ⟨fd, F⟩ := T.f_is_integer_within
  exact ⟨fd, fn_is_integer_within T F, F.binds (ps := ["value", "least", "most"]) fun _ _ _ _ _ _ us hl => match us, hl with | [_, _, _], _ => rfl, F.kp⟩
end
end At

namespace At
open L2 PyProof.Rows PySem.Spec PySem
section
variable {base : Heap} {w : World} {K : PySem.W.Frag} {mg : Str → Option Value} {P : Program}
abbrev N_is_pair_of_turns : List Str := ["value"]
theorem sc_is_pair_of_turns : FnScope N_is_pair_of_turns ["value"] (defScope s_is_pair_of_turns) := ⟨rfl, rfl, rfl, by decide +kernel, rfl, by decide +kernel, by decide +kernel⟩
def sp_is_pair_of_turns (K : PySem.W.Frag) : Sp := fun vs H Q _ => ∃ a pm, vs = [.ref a] ∧ PairAt H a pm ∧ PairOk pm ∧ ∀ H', Ext H H' → Q (.bl true) H'
theorem fn_is_pair_of_turns (T : Top w K mg) {fd : FuncData} (F : Fun K "is_pair_of_turns" "is_pair_of_turns" s_is_pair_of_turns (He.ga K "is_pair_of_turns") fd) : FnOk P w K mg base CX0 3 (He.ga K "is_pair_of_turns") fd ["value"] (sp_is_pair_of_turns K) := by
  obtain ⟨fd_is_integer_within, G_is_integer_within, b_is_integer_within, k_is_integer_within⟩ := ok_is_integer_within (P := P) (w := w) (base := base) T
  obtain ⟨u_MOST_TIMES, e_MOST_TIMES, r_MOST_TIMES⟩ := T.n_MOST_TIMES
  obtain ⟨fd_is_word, G_is_word, b_is_word, k_is_word⟩ := ok_is_word (P := P) (w := w) (base := base) T
  refine F.ok sc_is_pair_of_turns (fun vs H Q E h => ?hlen) (fun cdv A outer s H vs Q E hr h => ⟨_, (pss_cons (ps_if (PW.pt (pw_or (pt_not (pt_val (pe_callB call_isi (by rfl) T.b_isinstance (by decide +kernel) (pa_cons (pv 0) (pa_cons (pe_bltn (v := .ty "tuple") (by rfl) T.b_tuple (by decide +kernel) rfl) pa_nil))))) (pw_or1 (pt_cmpR op_ne (pe_callB call_len_seq (by rfl) T.b_len PySem.boot_len (pa_cons (pv 0) pa_nil)) pe_int (nomark _))))) (pss_one (ps_ret pe_bl)) pss_nil)
    (pss_one (ps_ret (pe_and (pe_call G_is_word (hr.mono (by decide)) (by rfl) T.g_is_word k_is_word b_is_word .nil pass0 (pa_cons (pe_ix ix_tup (pv 0) pe_int (fun _ _ => rfl)) pa_nil)) (pe_one (pe_call G_is_integer_within (hr.mono (by decide)) (by rfl) T.g_is_integer_within k_is_integer_within b_is_integer_within .nil pass0 (pa_cons (pe_ix ix_tup (pv 0) pe_int (fun _ _ => rfl)) (pa_cons pe_int (pa_cons (pe_glob rfl e_MOST_TIMES r_MOST_TIMES) pa_nil))))))))), ?hrd⟩)
  case hlen =>
    obtain ⟨a, pm, rfl, _⟩ := h
    rfl
  case hrd =>
    obtain ⟨a, pm, rfl, ha, ⟨h1, h2, h3, h4⟩, q⟩ := h
    have ha' : H a = some (.tup [.str (wd pm.1), .int pm.2]) := ha
    walk_at "gos"
    refine go_isi (.tup ha') (kit_tt _) ?_
    walk_at "gos"
    refine ⟨_, _, rfl, .inr (SqT.of ha'), ?_⟩
    walk_at "gos"
    refine go_iteNo rfl ?_
    walk_at "gos"
    refine go_rIxT (j := 0) (v := .str (wd pm.1)) (SqT.of ha') (by rfl) ?_
    walk_at "gos"
    refine ⟨_, rfl, h1, h2, fun H' e => ?_⟩
    walk_at "gos"
    refine go_rIxT (j := 1) (v := .int pm.2) (SqT.of (e _ _ ha')) (by rfl) ?_
    walk_at "gos"
    exact ⟨_, _, _, rfl, h3, h4, q H' e⟩
theorem ok_is_pair_of_turns (T : Top w K mg) : OkD P w K mg base 3 (He.ga K "is_pair_of_turns") ["value"] (sp_is_pair_of_turns K) := by
  obtain ⟨fd, F⟩ := T.f_is_pair_of_turns
  exact ⟨fd, fn_is_pair_of_turns T F, F.binds (ps := ["value"]) fun _ _ _ _ _ _ us hl => match us, hl with | [_], _ => rfl, F.kp⟩
end
end At

namespace At
open L2 PyProof.Rows PySem.Spec PySem
section
variable {base : Heap} {w : World} {K : PySem.W.Frag} {mg : Str → Option Value} {P : Program}
abbrev N_check_turns : List Str := ["turns", "index", "pair"]
theorem sc_check_turns : FnScope N_check_turns ["turns"] (defScope s_check_turns) := ⟨rfl, rfl, rfl, by decide +kernel, rfl, by decide +kernel, by decide +kernel⟩
def sp_check_turns (K : PySem.W.Frag) : Sp := fun vs H Q _ => ∃ a row, vs = [.ref a] ∧ RowAt H a row ∧ RowOk row ∧ ∀ H', Ext H H' → Q .non H'
theorem fn_check_turns (T : Top w K mg) {fd : FuncData} (F : Fun K "check_turns" "check_turns" s_check_turns (He.ga K "check_turns") fd) : FnOk P w K mg base CX0 4 (He.ga K "check_turns") fd ["turns"] (sp_check_turns K) := by
  obtain ⟨fd_is_pair_of_turns, G_is_pair_of_turns, b_is_pair_of_turns, k_is_pair_of_turns⟩ := ok_is_pair_of_turns (P := P) (w := w) (base := base) T
  obtain ⟨u_MOST_PAIRS, e_MOST_PAIRS, r_MOST_PAIRS⟩ := T.n_MOST_PAIRS
  refine F.ok sc_check_turns (fun vs H Q E h => ?hlen) (fun cdv A outer s H vs Q E hr h => ⟨_, (pss_cons (ps_if (pt_not (pt_val (pe_callB call_isi (by rfl) T.b_isinstance (by decide +kernel) (pa_cons (pv 0) (pa_cons (pe_bltn (v := .ty "tuple") (by rfl) T.b_tuple (by decide +kernel) rfl) pa_nil))))) (pss_one ps_never) pss_nil)
    (pss_one (ps_for PassesOwn.never rfl (pi_enumT (by rfl) T.b_enumerate (pa_cons (pv 0) pa_nil)) (pg_tup (by rfl) (pgs_cons (pg_name (i := 1) sc_check_turns.nd rfl (Or.inl rfl)) (pgs_cons (pg_name (i := 2) sc_check_turns.nd rfl (Or.inl rfl)) pgs_nil))) (pss_one (ps_if (PW.pt (pw_or (pt_cmpR op_ge (pv 1) (pe_glob rfl e_MOST_PAIRS r_MOST_PAIRS) (nomark _)) (pw_or1 (pt_not (pt_val (pe_call G_is_pair_of_turns (hr.mono (by decide)) (by rfl) T.g_is_pair_of_turns k_is_pair_of_turns b_is_pair_of_turns .nil pass0 (pa_cons (pv 2) pa_nil))))))) (pss_one ps_never) pss_nil))))), ?hrd⟩)
  case hlen =>
    obtain ⟨a, row, rfl, _⟩ := h
    rfl
  case hrd =>
    obtain ⟨a, row, rfl, ⟨rs, ha, hrs⟩, ⟨h200, hok⟩, q⟩ := h
    have hl := hrs.len
    walk_at "gos"
    refine go_isi (.tup ha) (kit_tt _) ?_
    walk_at "gos"
    refine ⟨a, _, rfl, SqT.of ha, ?_⟩
    refine loop_enumT (fun i σ' H' => ∃ y z, σ' = [some (.ref a), y, z] ∧ Ext H H') ⟨none, none, rfl, Evl.Ex.refl _⟩ (fun i σ' H' _ ⟨y, z, _, e⟩ => SqT.of (e a _ ha)) ?_ ?_
    · rintro i x σ' H' T0 hx ⟨y, z, rfl, e⟩ nT
      obtain ⟨r, pm, rfl, hr, hpm, hat⟩ := hrs.at_ hx
      have hi : i < row.length := by
        have := (List.getElem?_eq_some_iff.mp hpm).1
        exact this
      walk_at "gos"
      refine go_gTup (SqT.of upd_same) rfl ?_
      walk_at "gos"
      refine go_iteNo (decide_eq_false (by omega)) ?_
      walk_at "gos"
      refine ⟨r, pm, rfl, mem_new nT (e _ _ hat), hok pm (List.mem_of_getElem? hpm), fun H2 e2 => ?_⟩
      walk_at "gos"
      exact (ext_new e nT).trans e2
    · rintro σ' H' ⟨y, z, rfl, e⟩
      walk_at "gos"
      exact q H' e
theorem ok_check_turns (T : Top w K mg) : OkD P w K mg base 4 (He.ga K "check_turns") ["turns"] (sp_check_turns K) := by
  obtain ⟨fd, F⟩ := T.f_check_turns
  exact ⟨fd, fn_check_turns T F, F.binds (ps := ["turns"]) fun _ _ _ _ _ _ us hl => match us, hl with | [_], _ => rfl, F.kp⟩
end
end At

namespace At
open L2 PyProof.Rows PySem.Spec PySem
section
variable {base : Heap} {w : World} {K : PySem.W.Frag} {mg : Str → Option Value} {P : Program}
abbrev N_length : List Str := ["turns", "word", "times"]
theorem sc_length : FnScope N_length ["turns"] (defScope s_length) := ⟨rfl, rfl, rfl, by decide +kernel, rfl, by decide +kernel, by decide +kernel⟩
def sp_length (K : PySem.W.Frag) : Sp := fun vs H Q _ => ∃ l row, vs = [.ref l] ∧ RowAt H l row ∧ RowOk row ∧ ∀ H', Ext H H' → Q (.int (rowLen row)) H'
theorem fn_length (T : Top w K mg) {fd : FuncData} (F : Fun K "length" "length" s_length (He.ga K "length") fd) : FnOk P w K mg base CX0 5 (He.ga K "length") fd ["turns"] (sp_length K) := by
  obtain ⟨fd_check_turns, G_check_turns, b_check_turns, k_check_turns⟩ := ok_check_turns (P := P) (w := w) (base := base) T
  refine F.ok sc_length (fun vs H Q E h => ?hlen) (fun cdv A outer s H vs Q E hr h => ⟨_, (pss_cons (ps_expr (pe_call G_check_turns (hr.mono (by decide)) (by rfl) T.g_check_turns k_check_turns b_check_turns .nil pass0 (pa_cons (pv 0) pa_nil)))
    (pss_one (ps_ret (pe_callB (cr_sum rfl) (by rfl) T.b_sum (by decide +kernel) (pa_cons (pe_lc (own := [("word", 1), ("times", 2)]) (g := (gTup K 2 (gCons (gName 1) (gCons (gName 2) gNil)))) (tt := tYes) (by rfl) sc_length.nd (pi_tup (pv 0)) (blkOk_by (own := [("word", 1), ("times", 2)]) (N := N_length) (sc := defScope s_length) (by decide +kernel)) (fun _ _ _ _ _ => (pg_tup (by rfl) (pgs_cons (pg_name (i := 1) sc_length.nd rfl (Or.inl rfl)) (pgs_cons (pg_name (i := 2) sc_length.nd rfl (Or.inl rfl)) pgs_nil)))) (fun _ _ _ _ _ => pts_nil) (fun _ _ _ _ _ => (pe_op op_mulW (pe_callB call_len_str (by rfl) T.b_len PySem.boot_len (pa_cons (pv 1) pa_nil)) (pv 2)))) pa_nil))))), ?hrd⟩)
  case hlen =>
    obtain ⟨l, row, rfl, _⟩ := h
    rfl
  case hrd =>
    obtain ⟨l, row, rfl, hrow, hok, q⟩ := h
    walk_at "gos"
    refine ⟨l, row, rfl, hrow, hok, fun H1 e1 => ?_⟩
    walk_at "gos"
    refine go_lc ?_
    walk_at "gos"
    obtain ⟨rs, hl, hrs⟩ := hrow.ext e1
    have elen : (rs.map V.ref).length = row.length := by rw [List.length_map, hrs.len]
    have h200 := hok.1
    refine ⟨⟨_, SqT.of hl⟩, lc_tup2 hl (by omega) (atRow row fun pm => V.int ((pm.1.length : Int) * pm.2)) (fun D nD i x H' QE hx e hq => ?_) fun D nD H' e hD => ?_⟩
    · obtain ⟨r, pm, rfl, hr, hpm, hat⟩ := hrs.at_ hx
      obtain ⟨k1, k2, k3, k4⟩ := hok.2 pm (List.mem_of_getElem? hpm)
      have hat' : H' r = some (.tup [.str (wd pm.1), .int pm.2]) := e _ _ hat
      have hz : (wd pm.1).length = pm.1.length := wd_size pm.1
      refine go_gTup (SqT.of hat') rfl ?_
      walk_at "gos"
      refine ⟨rfl, ?_⟩
      walk_at "gos"
      refine ⟨by rw [hz]; exact Nat.le_trans k2 (by decide), ?_⟩
      rw [hz]
      walk_at "gos"
      refine go_rI (mul_ok (B := HUGE) (Int.le_refl _) ?_ ?_) ?_
      · unfold nat
        rw [if_neg (by omega)]
        exact Int.le_trans (show (pm.1.length : Int) ≤ 12 by omega) (by decide +kernel)
      · unfold nat
        rw [if_neg (by omega)]
        exact Int.le_trans k4 (by decide +kernel)
      · have hq' := hq H' (Evl.Ex.refl _)
        rw [atRow_at hpm] at hq'
        exact hq'
    · rw [range_map row _ elen (fun pm => V.int ((pm.1.length : Int) * pm.2))] at hD
      walk_at "gos"
      refine ⟨D, row.map fun pm => (pm.1.length : Int) * pm.2, rfl, SqL.of (by rw [hD, List.map_map]; rfl), ?_⟩
      exact q H' (e1.trans e)
theorem ok_length (T : Top w K mg) : OkD P w K mg base 5 (He.ga K "length") ["turns"] (sp_length K) := by
  obtain ⟨fd, F⟩ := T.f_length
  exact ⟨fd, fn_length T F, F.binds (ps := ["turns"]) fun _ _ _ _ _ _ us hl => match us, hl with | [_], _ => rfl, F.kp⟩
theorem okk_length (T : Top w K mg) : ∃ fd, FnOk P w K mg base CX0 5 (He.ga K "length") fd ["turns"] (sp_length K) ∧ PySem.W.keepIn K (.ref (He.ga K "length")) = true ∧ KBn K fd ["turns"] 0 ["turns"] (fun us ws => gSame us ws) (fun vs zs => gSame vs zs) := by
  obtain ⟨fd, F⟩ := T.f_length
  exact ⟨fd, fn_length T F, F.kp, kbn_of F 0 ["turns"] gSame relSame fun _ _ _ _ _ _ us ws l1 l2 => match us, ws, l1, l2 with | [], [_], _, _ => rfl⟩
end
end At

namespace At
open L2 PyProof.Rows PySem.Spec PySem
section
variable {base : Heap} {w : World} {K : PySem.W.Frag} {mg : Str → Option Value} {P : Program}
abbrev N__law_sip : List Str := ["_law_cup_here", "_law_top", "_law_part"]
theorem sc__law_sip : FnScope N__law_sip ["_law_cup_here", "_law_top"] (defScope s__law_sip) := ⟨rfl, rfl, rfl, by decide +kernel, rfl, by decide +kernel, by decide +kernel⟩
def sp__law_sip (K : PySem.W.Frag) : Sp := fun vs H Q _ => ∃ c top, vs = [.ref c, .int top] ∧ Cup H c ∧ 0 < top ∧ top ≤ MID ∧ ∀ i H', 0 ≤ i → i < top → ExtC c H H' → Cup H' c → Q (.int i) H'
theorem fn__law_sip (T : Top w K mg) {fd : FuncData} (F : Fun K "_law_sip" "_law_sip" s__law_sip (He.ga K "_law_sip") fd) : FnOk P w K mg base CX0 1 (He.ga K "_law_sip") fd ["_law_cup_here", "_law_top"] (sp__law_sip K) := by
  refine F.ok sc__law_sip (fun vs H Q E h => ?hlen) (fun cdv A outer s H vs Q E hr h => ⟨_, (pss_cons (ps_asg (pe_op op_modN (pe_callTy call_int1 (by rfl) T.b_int (by decide +kernel) (pa_cons (pe_op op_add (pe_op op_mul (pe_ix ix_list (pv 0) pe_int (fun _ _ => rfl)) pe_int) pe_int) pa_nil)) pe_int) (pg_sub (pv 0) pe_int set_list))
    (pss_cons (ps_if (pt_cmpR op_gt (pe_ix ix_list (pv 0) pe_int (fun _ _ => rfl)) pe_int (nomark _)) (pss_cons (ps_asg (pe_callB call_divmodW (by rfl) T.b_divmod (by decide +kernel) (pa_cons (pe_ix ix_list (pv 0) pe_int (fun _ _ => rfl)) (pa_cons (pv 1) pa_nil))) (pg_tup (by rfl) (pgs_cons (pg_sub (pv 0) pe_int set_list) (pgs_cons (pg_name (i := 2) sc__law_sip.nd rfl (Or.inl rfl)) pgs_nil))))
    (pss_one (ps_ret (pv 2)))) pss_nil)
    (pss_one (ps_ret (pe_op op_modN (pe_callTy call_int1 (by rfl) T.b_int (by decide +kernel) (pa_cons (pe_op op_fdivN (pe_ix ix_list (pv 0) pe_int (fun _ _ => rfl)) pe_int) pa_nil)) (pv 1)))))), ?hrd⟩)
  case hlen =>
    obtain ⟨c, top, rfl, _⟩ := h
    rfl
  case hrd =>
    obtain ⟨c, top, rfl, ⟨x, d, hc, hx0, hx1, hd⟩, ht0, ht1, q⟩ := h
    walk_at "gos"
    refine go_rIxL (j := 0) (v := .int x) (SqL.of hc) (by rfl) ?_
    walk_at "gos"
    refine .inl ⟨_, rfl, ?_⟩
    walk_at "gos"
    refine go_rSetL hc (by rfl) ?_
    obtain ⟨y0, y1⟩ := mixed (x * 48271 + 13)
    generalize (x * 48271 + 13).fmod 2147483629 = y at y0 y1 ⊢
    have hc1 : upd H c (.lst [.int y, .int d]) c = some (.lst [.int y, .int d]) := upd_same
    walk_at "gos"
    refine go_rIxL (j := 1) (v := .int d) (SqL.of hc1) (by rfl) ?_
    walk_at "gos"
    refine go_ite (fun hd0 => ?_) (fun hd0 => ?_)
    · walk_at "gos"
      refine go_rIxL (j := 1) (v := .int d) (SqL.of hc1) (by rfl) ?_
      walk_at "gos"
      refine ⟨cdivp ht0 ht1, fun p np => ?_⟩
      refine go_gTup (SqT.of upd_same) rfl ?_
      walk_at "gos"
      refine go_rSetL (mem_new np hc1) (by rfl) ?_
      walk_at "gos"
      refine q _ _ (Int.emod_nonneg _ (by omega)) (Int.emod_lt_of_pos _ ht0) ((ExtC.set.trans (ExtC.new np)).trans ExtC.set) ⟨y, d / top, upd_same, y0, y1, Int.ediv_nonneg hd (by omega)⟩
    · walk_at "gos"
      refine go_rIxL (j := 0) (v := .int y) (SqL.of hc1) (by rfl) ?_
      walk_at "gos"
      refine .inl ⟨_, rfl, ?_⟩
      walk_at "gos"
      exact q _ _ (modI ht0).1 (modI ht0).2 ExtC.set ⟨y, d, upd_same, y0, y1, hd⟩
theorem ok__law_sip (T : Top w K mg) : OkD P w K mg base 1 (He.ga K "_law_sip") ["_law_cup_here", "_law_top"] (sp__law_sip K) := by
  obtain ⟨fd, F⟩ := T.f__law_sip
  exact ⟨fd, fn__law_sip T F, F.binds (ps := ["_law_cup_here", "_law_top"]) fun _ _ _ _ _ _ us hl => match us, hl with | [_, _], _ => rfl, F.kp⟩
end
end At

namespace At
open L2 PyProof.Rows PySem.Spec PySem
section
variable {base : Heap} {w : World} {K : PySem.W.Frag} {mg : Str → Option Value} {P : Program}
abbrev N__law_pick : List Str := ["_law_cup_here", "_law_things"]
theorem sc__law_pick : FnScope N__law_pick ["_law_cup_here", "_law_things"] (defScope s__law_pick) := ⟨rfl, rfl, rfl, by decide +kernel, rfl, by decide +kernel, by decide +kernel⟩
def sp__law_pick (K : PySem.W.Frag) : Sp := fun vs H Q _ => ∃ c l xs, vs = [.ref c, .ref l] ∧ Cup H c ∧ H l = some (.lst xs) ∧ l ≠ c ∧ 0 < xs.length ∧ xs.length ≤ 1000 ∧ ∀ x H', x ∈ xs → ExtC c H H' → Cup H' c → Q x H'
theorem fn__law_pick (T : Top w K mg) {fd : FuncData} (F : Fun K "_law_pick" "_law_pick" s__law_pick (He.ga K "_law_pick") fd) : FnOk P w K mg base CX0 2 (He.ga K "_law_pick") fd ["_law_cup_here", "_law_things"] (sp__law_pick K) := by
  obtain ⟨fd__law_sip, G__law_sip, b__law_sip, k__law_sip⟩ := ok__law_sip (P := P) (w := w) (base := base) T
  refine F.ok sc__law_pick (fun vs H Q E h => ?hlen) (fun cdv A outer s H vs Q E hr h => ⟨_, (pss_one (ps_ret (pe_ix ix_list (pv 1) (pe_call G__law_sip (hr.mono (by decide)) (by rfl) T.g__law_sip k__law_sip b__law_sip .nil pass0 (pa_cons (pv 0) (pa_cons (pe_callB call_len_seq (by rfl) T.b_len PySem.boot_len (pa_cons (pv 1) pa_nil)) pa_nil))) (fun _ _ => rfl)))), ?hrd⟩)
  case hlen =>
    obtain ⟨c, l, xs, rfl, _⟩ := h
    rfl
  case hrd =>
    obtain ⟨c, l, xs, rfl, hc, hl, hlc, h0, h1, q⟩ := h
    walk_at "gos"
    refine ⟨_, _, rfl, .inl (SqL.of hl), ?_⟩
    walk_at "gos"
    refine ⟨c, _, rfl, hc, by omega, Int.le_trans (show (xs.length : Int) ≤ 1000 by omega) (by decide +kernel), fun i H' i0 i1 e hc' => ?_⟩
    obtain ⟨n, rfl⟩ : ∃ n : Nat, i = (n : Int) := ⟨i.toNat, by omega⟩
    have hn : n < xs.length := by omega
    refine go_rIxL (v := xs[n]) (SqL.of (e _ _ hlc hl)) (atI_nat (j := n) (List.getElem?_eq_getElem hn)) ?_
    exact q _ H' (List.getElem_mem hn) e hc'
theorem ok__law_pick (T : Top w K mg) : OkD P w K mg base 2 (He.ga K "_law_pick") ["_law_cup_here", "_law_things"] (sp__law_pick K) := by
  obtain ⟨fd, F⟩ := T.f__law_pick
  exact ⟨fd, fn__law_pick T F, F.binds (ps := ["_law_cup_here", "_law_things"]) fun _ _ _ _ _ _ us hl => match us, hl with | [_, _], _ => rfl, F.kp⟩
theorem lc_letters {K : PySem.W.Frag} {c : Addr} {lo : Int} {j n : Nat} {vs : List Nat} {σ : L2.St} {H : Hp} {Q : VK} (hc : Cup H c) (h0 : ∀ x, ((wipe σ vs).set j (some x))[0]? = some (some (.ref c))) (h1 : ∀ x, wipe ((wipe σ vs).set j (some x)) vs = wipe σ vs) (hn : n ≤ 1000)
    (k : ∀ (D : Addr) (pss : List P3) (H' : Hp), H D = none → D ≠ c → pss.length = n → ExtC c H H' → Cup H' c → H' D = some (.lst (pss.map fun s => V.str (wd [s]))) → Q (.ref D) H') :
    Lcs (Itr lo n) (gName j) (tCall (sp__law_pick K) [] E0 (tCons (tVar 0) (tCons (tLst (tCons (tC (.str "a")) (tCons (tC (.str "b")) (tCons (tC (.str "c")) tNil)))) tNil))) vs σ H Q := by
  intro D nD
  have hDc : D ≠ c := ne_cup hc nD
  refine lc_it (walk_range (lo := lo)) (fun i H' => ∃ pss : List P3, pss.length = i ∧ ExtC c H H' ∧ Cup H' c ∧ H' D = some (.lst (pss.map fun s => V.str (wd [s])))) ⟨[], rfl, ExtC.new nD, hc.new nD, upd_same⟩ (fun _ _ _ _ => trivial) (fun i x H' H'' hi pv y => ?_) fun H' pv => ?_
  · obtain ⟨pss, hl, e6, hc6, hD2⟩ := pv
    obtain ⟨rfl, rfl⟩ := y
    walk_at "gos"
    refine ⟨h1 _, ?_⟩
    refine go_yes ?_
    refine go_iteT ?_
    refine go_call ?_
    refine go_cons ?_
    refine ⟨_, h0 _, ?_⟩
    walk_at "gos"
    intro l3 nl3
    walk_at "gos"
    refine ⟨c, l3, _, rfl, hc6.new nl3, upd_same, ne_cup hc6 nl3, Nat.succ_pos _, Nat.le_of_ble_eq_true rfl, fun x H7 hx7 e7 hc7 => ?_⟩
    obtain ⟨s, rfl⟩ := abc_of hx7
    refine ⟨_, e7 D _ hDc (mem_new nl3 hD2), by rw [List.length_map, hl, sizeLine_eq]; omega, pss ++ [s], by rw [List.length_append, hl]; rfl, ExtC.mut ((e6.trans (ExtC.new nl3)).trans e7) nD, hc7.past hDc, ?_⟩
    rw [upd_same, List.map_append]
    rfl
  · obtain ⟨pss, hl, e6, hc6, hD2⟩ := pv
    exact k D pss H' nD hDc hl e6 hc6 hD2
end
end At

namespace At
open L2 PyProof.Rows PySem.Spec PySem
section
variable {base : Heap} {w : World} {K : PySem.W.Frag} {mg : Str → Option Value} {P : Program}
abbrev N__law_standing : List Str := ["_law_cup_here", "_law_top", "_law_kind", "_law_p", "_law_q", "_law_least_here", "_law_sign"]
theorem sc__law_standing : FnScope N__law_standing ["_law_cup_here", "_law_top"] (defScope s__law_standing) := ⟨rfl, rfl, rfl, by decide +kernel, rfl, by decide +kernel, by decide +kernel⟩
def sp__law_standing (K : PySem.W.Frag) : Sp := fun vs H Q _ => ∃ c top, vs = [.ref c, .int top] ∧ Cup H c ∧ 1 ≤ top ∧ top ≤ TOPB ∧ ∀ p t H', Sm top t → ExtC c H H' → Cup H' c → H' p = some (.tup (tv t)) → Q (.ref p) H'
theorem fn__law_standing (T : Top w K mg) {fd : FuncData} (F : Fun K "_law_standing" "_law_standing" s__law_standing (He.ga K "_law_standing") fd) : FnOk P w K mg base CX0 3 (He.ga K "_law_standing") fd ["_law_cup_here", "_law_top"] (sp__law_standing K) := by
  obtain ⟨fd__law_sip, G__law_sip, b__law_sip, k__law_sip⟩ := ok__law_sip (P := P) (w := w) (base := base) T
  obtain ⟨fd__law_pick, G__law_pick, b__law_pick, k__law_pick⟩ := ok__law_pick (P := P) (w := w) (base := base) T
  refine F.ok sc__law_standing (fun vs H Q E h => ?hlen) (fun cdv A outer s H vs Q E hr h => ⟨_, (pss_cons (ps_par3 (i := 2) (j := 3) (l := 4) (by rfl) sc__law_standing.nd rfl rfl rfl (by decide) (by decide) (by decide) rfl rfl rfl (pa_cons (pe_call G__law_sip (hr.mono (by decide)) (by rfl) T.g__law_sip k__law_sip b__law_sip .nil pass0 (pa_cons (pv 0) (pa_cons pe_int pa_nil))) (pa_cons (pe_op op_add pe_int (pe_call G__law_sip (hr.mono (by decide)) (by rfl) T.g__law_sip k__law_sip b__law_sip .nil pass0 (pa_cons (pv 0) (pa_cons (pv 1) pa_nil)))) (pa_cons (pe_op op_add pe_int (pe_call G__law_sip (hr.mono (by decide)) (by rfl) T.g__law_sip k__law_sip b__law_sip .nil pass0 (pa_cons (pv 0) (pa_cons (pv 1) pa_nil)))) pa_nil))) (by rfl))
    (pss_cons (ps_if (pt_cmpR op_eq (pv 2) pe_int (nomark _)) (pss_cons (ps_set (i := 5) sc__law_standing.nd rfl (Or.inl rfl) (pe_tup (pa_cons (pv 3) (pa_cons (pv 4) (pa_cons (pe_op op_add (pe_callB (call_max2 rfl) (by rfl) T.b_max (by decide +kernel) (pa_cons (pv 3) (pa_cons (pv 4) pa_nil))) (pe_call G__law_sip (hr.mono (by decide)) (by rfl) T.g__law_sip k__law_sip b__law_sip .nil pass0 (pa_cons (pv 0) (pa_cons (pe_callB (call_max2 rfl) (by rfl) T.b_max (by decide +kernel) (pa_cons pe_int (pa_cons (pe_op op_add (pe_op op_sub (pe_op op_fdivN (pe_op op_mulW (pv 3) (pv 4)) pe_int) (pe_callB (call_max2 rfl) (by rfl) T.b_max (by decide +kernel) (pa_cons (pv 3) (pa_cons (pv 4) pa_nil)))) pe_int) pa_nil))) pa_nil)))) pa_nil)))))
    (pss_one (ps_ret (pe_ifExp (pt_cmpR op_eq (pe_call G__law_sip (hr.mono (by decide)) (by rfl) T.g__law_sip k__law_sip b__law_sip .nil pass0 (pa_cons (pv 0) (pa_cons pe_int pa_nil))) pe_int (nomark _)) (pv 5) (pe_tup (pa_cons (pe_op op_sub pe_int (pe_ix ix_tup (pv 5) pe_int (fun _ _ => rfl))) (pa_cons (pe_op op_sub pe_int (pe_ix ix_tup (pv 5) pe_int (fun _ _ => rfl))) (pa_cons (pe_op op_sub pe_int (pe_ix ix_tup (pv 5) pe_int (fun _ _ => rfl))) pa_nil)))))))) pss_nil)
    (pss_cons (ps_if (pt_cmpR op_eq (pv 2) pe_int (nomark _)) (pss_one (ps_ret (pe_tup (pa_cons (pv 3) (pa_cons (pv 4) (pa_cons (pe_call G__law_pick (hr.mono (by decide)) (by rfl) T.g__law_pick k__law_pick b__law_pick .nil pass0 (pa_cons (pv 0) (pa_cons (pe_lst (pa_cons (pe_op op_fdivN (pe_op op_mulW (pv 3) (pv 4)) pe_int) (pa_cons (pe_callB (call_max2 rfl) (by rfl) T.b_max (by decide +kernel) (pa_cons pe_int (pa_cons (pe_op op_sub (pe_op op_mulW (pv 3) (pv 4)) (pv 4)) pa_nil))) (pa_cons (pe_op op_add (pe_op op_mulW (pv 3) (pv 4)) pe_int) (pa_cons (pe_op op_mulW (pv 3) (pv 4)) pa_nil))))) pa_nil))) pa_nil)))))) pss_nil)
    (pss_cons (ps_if (pt_cmpR op_eq (pv 2) pe_int (nomark _)) (pss_one (ps_ret (pe_tup (pa_cons pe_int (pa_cons (pv 4) (pa_cons (pe_op op_add (pv 4) (pe_call G__law_sip (hr.mono (by decide)) (by rfl) T.g__law_sip k__law_sip b__law_sip .nil pass0 (pa_cons (pv 0) (pa_cons pe_int pa_nil)))) pa_nil)))))) pss_nil)
    (pss_cons (ps_if (pt_cmpR op_eq (pv 2) pe_int (nomark _)) (pss_one (ps_ret (pe_tup (pa_cons (pe_call G__law_pick (hr.mono (by decide)) (by rfl) T.g__law_pick k__law_pick b__law_pick .nil pass0 (pa_cons (pv 0) (pa_cons (pe_lst (pa_cons pe_int (pa_cons (pe_un un_neg pe_int) pa_nil))) pa_nil))) (pa_cons (pe_op op_sub (pe_call G__law_sip (hr.mono (by decide)) (by rfl) T.g__law_sip k__law_sip b__law_sip .nil pass0 (pa_cons (pv 0) (pa_cons (pv 1) pa_nil))) (pe_op op_fdivN (pv 1) pe_int)) (pa_cons (pe_op op_sub (pe_call G__law_sip (hr.mono (by decide)) (by rfl) T.g__law_sip k__law_sip b__law_sip .nil pass0 (pa_cons (pv 0) (pa_cons (pv 1) pa_nil))) (pe_op op_fdivN (pv 1) pe_int)) pa_nil)))))) pss_nil)
    (pss_cons (ps_if (pt_cmpR op_eq (pv 2) pe_int (nomark _)) (pss_one (ps_ret (pe_tup (pa_cons pe_int (pa_cons (pe_op op_sub (pe_call G__law_sip (hr.mono (by decide)) (by rfl) T.g__law_sip k__law_sip b__law_sip .nil pass0 (pa_cons (pv 0) (pa_cons (pe_op op_mul pe_int (pv 1)) pa_nil))) (pv 1)) (pa_cons (pe_op op_sub (pe_call G__law_sip (hr.mono (by decide)) (by rfl) T.g__law_sip k__law_sip b__law_sip .nil pass0 (pa_cons (pv 0) (pa_cons pe_int pa_nil))) pe_int) pa_nil)))))) pss_nil)
    (pss_cons (ps_set (i := 6) sc__law_standing.nd rfl (Or.inl rfl) (pe_call G__law_pick (hr.mono (by decide)) (by rfl) T.g__law_pick k__law_pick b__law_pick .nil pass0 (pa_cons (pv 0) (pa_cons (pe_lst (pa_cons pe_int (pa_cons (pe_un un_neg pe_int) pa_nil))) pa_nil))))
    (pss_one (ps_ret (pe_tup (pa_cons (pe_op op_mulW (pv 6) (pv 3)) (pa_cons (pe_op op_mulW (pv 6) (pv 4)) (pa_cons (pe_op op_mulW (pv 6) (pe_call G__law_pick (hr.mono (by decide)) (by rfl) T.g__law_pick k__law_pick b__law_pick .nil pass0 (pa_cons (pv 0) (pa_cons (pe_lst (pa_cons (pe_op op_add pe_int (pe_call G__law_sip (hr.mono (by decide)) (by rfl) T.g__law_sip k__law_sip b__law_sip .nil pass0 (pa_cons (pv 0) (pa_cons (pv 1) pa_nil)))) (pa_cons (pe_op op_sub (pe_op op_sub pe_int pe_int) (pe_call G__law_sip (hr.mono (by decide)) (by rfl) T.g__law_sip k__law_sip b__law_sip .nil pass0 (pa_cons (pv 0) (pa_cons (pv 1) pa_nil)))) pa_nil))) pa_nil)))) pa_nil))))))))))))), ?hrd⟩)
  case hlen =>
    obtain ⟨c, top, rfl, _⟩ := h
    rfl
  case hrd =>
    obtain ⟨c, top, rfl, hc, h1, h2, fin⟩ := h
    have hmid := top_mid h1 h2
    have hsq0 : 2 * top + 1 ≤ (top + 1) * (top + 1) := by
      have := Int.mul_le_mul_of_nonneg_right (show 2 ≤ top + 1 by omega) (show 0 ≤ top + 1 by omega)
      omega
    have htm : top ≤ MID := by omega
    walk_at "gos"
    refine ⟨c, _, rfl, hc, by decide, by decide, fun kd H1 k0 k1 e1 hc1 => ?_⟩
    walk_at "gos"
    refine ⟨c, _, rfl, hc1, by omega, htm, fun p' H2 p0 p1 e2 hc2 => ?_⟩
    walk_at "gos"
    refine ⟨c, _, rfl, hc2, by omega, htm, fun q' H3 q0 q1 e3 hc3 => ?_⟩
    walk_at "gos"
    have e := (e1.trans e2).trans e3
    obtain ⟨p, hp⟩ : ∃ p, 2 + p' = p := ⟨_, rfl⟩
    obtain ⟨q, hq⟩ : ∃ q, 2 + q' = q := ⟨_, rfl⟩
    rw [hp, hq]
    have hpq := top_sq (t := top) (a := p) (b := q) (by omega) (by omega) (by omega) (by omega)
    have hpq0 : 0 ≤ p * q := Int.mul_nonneg (by omega) (by omega)
    have hmid2 : ∀ x : Int, 0 ≤ x → x ≤ MID → nat x ≤ HUGE := fun x a b => by
      unfold nat
      rw [if_neg (by omega)]
      exact Int.le_trans b (Int.le_trans mid_half half_huge)
    have cm : CMulW p q := mul_ok (Int.le_refl _) (hmid2 p (by omega) (by omega)) (hmid2 q (by omega) (by omega))
    have sm : ∀ {t : T3}, nat t.1 ≤ top + 1 ∧ nat t.2.1 ≤ top + 1 ∧ nat t.2.2 ≤ (top + 1) * (top + 1) + 2 → Sm top t := fun h => h
    have nle : ∀ {x B : Int}, -B ≤ x → x ≤ B → nat x ≤ B := fun {x B} a b => by unfold nat; split <;> omega
    refine go_ite (fun g0 => ?_) (fun g0 => ?_)
    · walk_at "gos"
      (rw [Int.fdiv_eq_ediv_of_nonneg _ (by decide)])
      refine ⟨c, _, rfl, hc3, by split <;> omega, by split <;> split <;> omega, fun i H4 i0 i1 e4 hc4 => ?_⟩
      have hm : (if q > p then q else p) + i ≤ (top + 1) * (top + 1) + 2 ∧ 0 ≤ (if q > p then q else p) + i := by
        split at i1 <;> split at i1 <;> split <;> omega
      obtain ⟨r, hr⟩ : ∃ r, (if q > p then q else p) + i = r := ⟨_, rfl⟩
      rw [hr] at hm
      walk_at "gos"
      rw [hr]
      intro T0 nT
      walk_at "gos"
      refine ⟨c, _, rfl, hc4.new nT, by decide, by decide, fun j H5 j0 j1 e5 hc5 => ?_⟩
      have hT : H5 T0 = some (.tup [.int p, .int q, .int r]) := e5.tup (hc4.new nT) upd_same
      have e6 := e.trans ((e4.trans (ExtC.new nT)).trans e5)
      walk_at "gos"
      refine go_ite (fun _ => ?_) (fun _ => ?_)
      · walk_at "gos"
        exact fin T0 (p, q, r) H5 (sm ⟨nle (by dsimp only; omega) (by dsimp only; omega), nle (by dsimp only; omega) (by dsimp only; omega), nle (by dsimp only; omega) (by dsimp only; omega)⟩) e6 hc5 hT
      · walk_at "gos"
        refine go_rIxT (j := 0) (v := .int p) (SqT.of hT) (by rfl) ?_
        walk_at "gos"
        refine go_rIxT (j := 1) (v := .int q) (SqT.of hT) (by rfl) ?_
        walk_at "gos"
        refine go_rIxT (j := 2) (v := .int r) (SqT.of hT) (by rfl) ?_
        walk_at "gos"
        intro T1 nT1
        exact fin T1 (0 - p, 0 - q, 0 - r) _ (sm ⟨nle (by dsimp only; omega) (by dsimp only; omega), nle (by dsimp only; omega) (by dsimp only; omega), nle (by dsimp only; omega) (by dsimp only; omega)⟩) (e6.trans (ExtC.new nT1)) (hc5.new nT1) upd_same
    walk_at "gos"
    refine go_ite (fun g1 => ?_) (fun g1 => ?_)
    · walk_at "gos"
      intro l nl
      walk_at "gos"
      refine ⟨c, l, _, rfl, hc3.new nl, upd_same, ne_cup hc3 nl, Nat.succ_pos _, Nat.le_of_ble_eq_true rfl, fun x H4 hx e4 hc4 => ?_⟩
      obtain ⟨z, rfl, z0, z1⟩ : ∃ z : Int, x = .int z ∧ -((top + 1) * (top + 1) + 2) ≤ z ∧ z ≤ (top + 1) * (top + 1) + 2 := by
        rw [Int.fdiv_eq_ediv_of_nonneg _ (by decide)] at hx
        (simp only [List.mem_cons, List.not_mem_nil, or_false] at hx)
        rcases hx with rfl | rfl | rfl | rfl
        · exact ⟨_, rfl, by omega, by omega⟩
        · exact ⟨_, rfl, by split <;> omega, by split <;> omega⟩
        · exact ⟨_, rfl, by omega, by omega⟩
        · exact ⟨_, rfl, by omega, by omega⟩
      walk_at "gos"
      intro T0 nT
      exact fin T0 (p, q, z) _ (sm ⟨nle (by dsimp only; omega) (by dsimp only; omega), nle (by dsimp only; omega) (by dsimp only; omega), nle z0 z1⟩) (e.trans (((ExtC.new nl).trans e4).trans (ExtC.new nT))) (hc4.new nT) upd_same
    walk_at "gos"
    refine go_ite (fun g2 => ?_) (fun g2 => ?_)
    · walk_at "gos"
      refine ⟨c, _, rfl, hc3, by decide, by decide, fun i H4 i0 i1 e4 hc4 => ?_⟩
      walk_at "gos"
      intro T0 nT
      exact fin T0 (2, q, q + i) _ (sm ⟨nle (by dsimp only; omega) (by dsimp only; omega), nle (by dsimp only; omega) (by dsimp only; omega), nle (by dsimp only; omega) (by dsimp only; omega)⟩) (e.trans (e4.trans (ExtC.new nT))) (hc4.new nT) upd_same
    walk_at "gos"
    refine go_ite (fun g3 => ?_) (fun g3 => ?_)
    · walk_at "gos"
      intro l nl
      walk_at "gos"
      refine ⟨c, l, _, rfl, hc3.new nl, upd_same, ne_cup hc3 nl, Nat.succ_pos _, Nat.le_of_ble_eq_true rfl, fun x H4 hx e4 hc4 => ?_⟩
      obtain ⟨z, rfl, z0, z1⟩ : ∃ z : Int, x = .int z ∧ -1 ≤ z ∧ z ≤ 1 := by
        (simp only [List.mem_cons, List.not_mem_nil, or_false] at hx)
        rcases hx with rfl | rfl <;> exact ⟨_, rfl, by decide, by decide⟩
      walk_at "gos"
      refine ⟨c, _, rfl, hc4, by omega, htm, fun i H5 i0 i1 e5 hc5 => ?_⟩
      walk_at "gos"
      refine ⟨c, _, rfl, hc5, by omega, htm, fun j H6 j0 j1 e6 hc6 => ?_⟩
      walk_at "gos"
      (rw [Int.fdiv_eq_ediv_of_nonneg _ (by decide)])
      intro T0 nT
      exact fin T0 (z, i - top / 2, j - top / 2) _ (sm ⟨nle (by dsimp only; omega) (by dsimp only; omega), nle (by dsimp only; omega) (by dsimp only; omega), nle (by dsimp only; omega) (by dsimp only; omega)⟩) (e.trans ((((ExtC.new nl).trans e4).trans (e5.trans e6)).trans (ExtC.new nT))) (hc6.new nT) upd_same
    walk_at "gos"
    refine go_ite (fun g4 => ?_) (fun g4 => ?_)
    · walk_at "gos"
      refine ⟨c, _, rfl, hc3, by omega, by omega, fun i H4 i0 i1 e4 hc4 => ?_⟩
      walk_at "gos"
      refine ⟨c, _, rfl, hc4, by decide, by decide, fun j H5 j0 j1 e5 hc5 => ?_⟩
      walk_at "gos"
      intro T0 nT
      exact fin T0 (0, i - top, j - 1) _ (sm ⟨nle (by dsimp only; omega) (by dsimp only; omega), nle (by dsimp only; omega) (by dsimp only; omega), nle (by dsimp only; omega) (by dsimp only; omega)⟩) (e.trans ((e4.trans e5).trans (ExtC.new nT))) (hc5.new nT) upd_same
    walk_at "gos"
    intro l nl
    walk_at "gos"
    refine ⟨c, l, _, rfl, hc3.new nl, upd_same, ne_cup hc3 nl, Nat.succ_pos _, Nat.le_of_ble_eq_true rfl, fun x H4 hx e4 hc4 => ?_⟩
    obtain ⟨z, rfl, hz⟩ : ∃ z : Int, x = .int z ∧ (z = 1 ∨ z = -1) := by
      (simp only [List.mem_cons, List.not_mem_nil, or_false] at hx)
      rcases hx with rfl | rfl
      · exact ⟨_, rfl, .inl rfl⟩
      · exact ⟨_, rfl, .inr rfl⟩
    have mz : ∀ y B : Int, B ≤ (top + 1) * (top + 1) + 2 → -B ≤ y → y ≤ B → CMulW z y ∧ nat (z * y) ≤ B := fun y B hB a b => by
      have hy : nat y ≤ HUGE := Int.le_trans (nle a b) (Int.le_trans (Int.le_trans hB hmid) (Int.le_trans mid_half half_huge))
      rcases hz with rfl | rfl
      · exact ⟨mul_ok (Int.le_refl _) (by decide +kernel) hy, by rw [Int.one_mul]; exact nle a b⟩
      · exact ⟨mul_ok (Int.le_refl _) (by decide +kernel) hy, by rw [Int.neg_mul, Int.one_mul, nat_neg]; exact nle a b⟩
    have e5 := e.trans ((ExtC.new nl).trans e4)
    have mp := mz p (top + 1) (by omega) (by omega) (by omega)
    have mq := mz q (top + 1) (by omega) (by omega) (by omega)
    walk_at "gos"
    refine go_rI mp.1 ?_
    walk_at "gos"
    refine go_rI mq.1 ?_
    walk_at "gos"
    refine ⟨c, _, rfl, hc4, by omega, htm, fun i H5 i0 i1 e6 hc5 => ?_⟩
    walk_at "gos"
    refine ⟨c, _, rfl, hc5, by omega, htm, fun j H6 j0 j1 e7 hc6 => ?_⟩
    walk_at "gos"
    intro l2 nl2
    walk_at "gos"
    refine ⟨c, l2, _, rfl, hc6.new nl2, upd_same, ne_cup hc6 nl2, Nat.succ_pos _, Nat.le_of_ble_eq_true rfl, fun x H7 hx e8 hc7 => ?_⟩
    obtain ⟨y, rfl, y0, y1⟩ : ∃ y : Int, x = .int y ∧ -((top + 1) * (top + 1) + 2) ≤ y ∧ y ≤ (top + 1) * (top + 1) + 2 := by
      (simp only [List.mem_cons, List.not_mem_nil, or_false] at hx)
      rcases hx with rfl | rfl
      · exact ⟨_, rfl, by omega, by omega⟩
      · exact ⟨_, rfl, by omega, by omega⟩
    have my := mz y _ (Int.le_refl _) y0 y1
    refine go_rI my.1 ?_
    walk_at "gos"
    intro T0 nT
    exact fin T0 (z * p, z * q, z * y) _ (sm ⟨mp.2, mq.2, my.2⟩) (e5.trans (((e6.trans e7).trans ((ExtC.new nl2).trans e8)).trans (ExtC.new nT))) (hc7.new nT) upd_same
theorem ok__law_standing (T : Top w K mg) : OkD P w K mg base 3 (He.ga K "_law_standing") ["_law_cup_here", "_law_top"] (sp__law_standing K) := by
  obtain ⟨fd, F⟩ := T.f__law_standing
  exact ⟨fd, fn__law_standing T F, F.binds (ps := ["_law_cup_here", "_law_top"]) fun _ _ _ _ _ _ us hl => match us, hl with | [_, _], _ => rfl, F.kp⟩
end
end At

namespace At
open L2 PyProof.Rows PySem.Spec PySem
section
variable {base : Heap} {w : World} {K : PySem.W.Frag} {mg : Str → Option Value} {P : Program}
abbrev N__law_push : List Str := ["_law_coming", "_law_going", "_law_third"]
theorem sc__law_push : FnScope N__law_push ["_law_coming", "_law_going", "_law_third"] (defScope s__law_push) := ⟨rfl, rfl, rfl, by decide +kernel, rfl, by decide +kernel, by decide +kernel⟩
def sp__law_push (K : PySem.W.Frag) : Sp := fun vs H Q _ => ∃ x y z : Int, vs = [.int x, .int y, .int z] ∧ nat x ≤ HUGE ∧ nat y ≤ HUGE ∧ Q (.int (push x y z)) H
theorem fn__law_push (T : Top w K mg) {fd : FuncData} (F : Fun K "_law_push" "_law_push" s__law_push (He.ga K "_law_push") fd) : FnOk P w K mg base CX0 1 (He.ga K "_law_push") fd ["_law_coming", "_law_going", "_law_third"] (sp__law_push K) := by
  refine F.ok sc__law_push (fun vs H Q E h => ?hlen) (fun cdv A outer s H vs Q E hr h => ⟨_, (pss_cons (ps_if (PW.pt (pw_and (pt_cmpR op_gt (pv 0) pe_int (nomark _)) (pw_and1 (pt_cmpR op_gt (pv 1) pe_int (nomark _))))) (pss_one (ps_ret (pe_op op_sub (pv 2) (pe_op op_mulW (pv 0) (pv 1))))) pss_nil)
    (pss_one (ps_ret (pe_ifExp (PW.pt (pw_and (pt_cmpR op_lt (pv 0) pe_int (nomark _)) (pw_and1 (pt_cmpR op_lt (pv 1) pe_int (nomark _))))) (pe_op op_add (pv 2) (pe_op op_mulW (pv 0) (pv 1))) (pv 2))))), ?hrd⟩)
  case hlen =>
    obtain ⟨x, y, z, rfl, _⟩ := h
    rfl
  case hrd =>
    obtain ⟨x, y, z, rfl, hx, hy, q⟩ := h
    have hm : CMulW x y := mul_ok (Int.le_refl _) hx hy
    walk_at "gos"
    refine go_ite (fun h1 => ?_) (fun h1 => ?_)
    · walk_at "gos"
      refine go_ite (fun h2 => ?_) (fun h2 => ?_)
      · walk_at "gos"
        rw [push_pos h1 h2] at q
        exact q
      · walk_at "gos"
        refine go_ite (fun h3 => absurd h1 (by omega)) (fun h3 => ?_)
        walk_at "gos"
        unfold push at q
        rw [if_neg (by omega), if_neg (by omega)] at q
        exact q
    · walk_at "gos"
      refine go_ite (fun h3 => ?_) (fun h3 => ?_)
      · walk_at "gos"
        refine go_ite (fun h4 => ?_) (fun h4 => ?_)
        · walk_at "gos"
          rw [push_neg h3 h4] at q
          exact q
        · walk_at "gos"
          unfold push at q
          rw [if_neg (by omega), if_neg (by omega)] at q
          exact q
      · walk_at "gos"
        unfold push at q
        rw [if_neg (by omega), if_neg (by omega)] at q
        exact q
theorem ok__law_push (T : Top w K mg) : OkD P w K mg base 1 (He.ga K "_law_push") ["_law_coming", "_law_going", "_law_third"] (sp__law_push K) := by
  obtain ⟨fd, F⟩ := T.f__law_push
  exact ⟨fd, fn__law_push T F, F.binds (ps := ["_law_coming", "_law_going", "_law_third"]) fun _ _ _ _ _ _ us hl => match us, hl with | [_, _, _], _ => rfl, F.kp⟩
end
end At

namespace At
open L2 PyProof.Rows PySem.Spec PySem
section
variable {base : Heap} {w : World} {K : PySem.W.Frag} {mg : Str → Option Value} {P : Program}
abbrev N__law_turn : List Str := ["_law_told", "_law_place", "_law_x", "_law_y", "_law_z"]
theorem sc__law_turn : FnScope N__law_turn ["_law_told", "_law_place"] (defScope s__law_turn) := ⟨rfl, rfl, rfl, by decide +kernel, rfl, by decide +kernel, by decide +kernel⟩
def sp__law_turn (K : PySem.W.Frag) : Sp := fun vs H Q _ => ∃ a t p, vs = [.ref a, .str (lt p)] ∧ H a = some (.tup (tv t)) ∧ big t ≤ HUGE ∧ ∀ b H', Ext H H' → H' b = some (.tup (tv (turn p t))) → Q (.ref b) H'
theorem fn__law_turn (T : Top w K mg) {fd : FuncData} (F : Fun K "_law_turn" "_law_turn" s__law_turn (He.ga K "_law_turn") fd) : FnOk P w K mg base CX0 2 (He.ga K "_law_turn") fd ["_law_told", "_law_place"] (sp__law_turn K) := by
  obtain ⟨fd__law_push, G__law_push, b__law_push, k__law_push⟩ := ok__law_push (P := P) (w := w) (base := base) T
  refine F.ok sc__law_turn (fun vs H Q E h => ?hlen) (fun cdv A outer s H vs Q E hr h => ⟨_, (pss_cons (ps_asg (pv 0) (pg_tup (by rfl) (pgs_cons (pg_name (i := 2) sc__law_turn.nd rfl (Or.inl rfl)) (pgs_cons (pg_name (i := 3) sc__law_turn.nd rfl (Or.inl rfl)) (pgs_cons (pg_name (i := 4) sc__law_turn.nd rfl (Or.inl rfl)) pgs_nil)))))
    (pss_cons (ps_if (pt_cmpR op_eq (pv 1) pe_str (nomark _)) (pss_one (ps_ret (pe_tup (pa_cons (pe_op op_sub pe_int (pv 2)) (pa_cons (pe_call G__law_push (hr.mono (by decide)) (by rfl) T.g__law_push k__law_push b__law_push .nil pass0 (pa_cons (pv 4) (pa_cons (pv 2) (pa_cons (pv 3) pa_nil)))) (pa_cons (pe_op op_sub pe_int (pv 4)) pa_nil)))))) pss_nil)
    (pss_cons (ps_if (pt_cmpR op_eq (pv 1) pe_str (nomark _)) (pss_one (ps_ret (pe_tup (pa_cons (pe_op op_sub pe_int (pv 2)) (pa_cons (pe_op op_sub pe_int (pv 3)) (pa_cons (pe_call G__law_push (hr.mono (by decide)) (by rfl) T.g__law_push k__law_push b__law_push .nil pass0 (pa_cons (pv 2) (pa_cons (pv 3) (pa_cons (pv 4) pa_nil)))) pa_nil)))))) pss_nil)
    (pss_one (ps_ret (pe_tup (pa_cons (pe_call G__law_push (hr.mono (by decide)) (by rfl) T.g__law_push k__law_push b__law_push .nil pass0 (pa_cons (pv 3) (pa_cons (pv 4) (pa_cons (pv 2) pa_nil)))) (pa_cons (pe_op op_sub pe_int (pv 3)) (pa_cons (pe_op op_sub pe_int (pv 4)) pa_nil))))))))), ?hrd⟩)
  case hlen =>
    obtain ⟨a, t, p, rfl, _⟩ := h
    rfl
  case hrd =>
    obtain ⟨a, ⟨x, y, z⟩, p, rfl, ha, hb, q⟩ := h
    obtain ⟨b1, b2, b3⟩ := big_le.mp hb
    have ha' : H a = some (.tup [.int x, .int y, .int z]) := ha
    walk_at "gos"
    refine go_gTup (SqT.of ha') rfl ?_
    walk_at "gos"
    have nba : ¬ lt .b = ("a" : Str) := by decide +kernel
    have nca : ¬ lt .c = ("a" : Str) := by decide +kernel
    have ncb : ¬ lt .c = ("b" : Str) := by decide +kernel
    cases p with
    | a =>
      refine go_ite (fun _ => ?_) (fun z => absurd lt_a z)
      walk_at "gos"
      refine ⟨_, _, _, rfl, b3, b1, ?_⟩
      walk_at "gos"
      intro b nb
      refine q b _ (Evl.Ex.new nb) ?_
      rw [upd_same]
      simp only [Int.zero_sub]
      rfl
    | b =>
      refine go_ite (fun z => absurd z nba) (fun _ => ?_)
      walk_at "gos"
      refine go_ite (fun _ => ?_) (fun z => absurd lt_b z)
      walk_at "gos"
      refine ⟨_, _, _, rfl, b1, b2, ?_⟩
      walk_at "gos"
      intro b nb
      refine q b _ (Evl.Ex.new nb) ?_
      rw [upd_same]
      simp only [Int.zero_sub]
      rfl
    | c =>
      refine go_ite (fun z => absurd z nca) (fun _ => ?_)
      walk_at "gos"
      refine go_ite (fun z => absurd z ncb) (fun _ => ?_)
      walk_at "gos"
      refine ⟨_, _, _, rfl, b2, b3, ?_⟩
      walk_at "gos"
      intro b nb
      refine q b _ (Evl.Ex.new nb) ?_
      rw [upd_same]
      simp only [Int.zero_sub]
      rfl
theorem ok__law_turn (T : Top w K mg) : OkD P w K mg base 2 (He.ga K "_law_turn") ["_law_told", "_law_place"] (sp__law_turn K) := by
  obtain ⟨fd, F⟩ := T.f__law_turn
  exact ⟨fd, fn__law_turn T F, F.binds (ps := ["_law_told", "_law_place"]) fun _ _ _ _ _ _ us hl => match us, hl with | [_, _], _ => rfl, F.kp⟩
end
end At

namespace At
open L2 PyProof.Rows PySem.Spec PySem
section
variable {base : Heap} {w : World} {K : PySem.W.Frag} {mg : Str → Option Value} {P : Program}
abbrev N__law_walk : List Str := ["_law_told", "_law_letters_here", "_law_place"]
theorem sc__law_walk : FnScope N__law_walk ["_law_told", "_law_letters_here"] (defScope s__law_walk) := ⟨rfl, rfl, rfl, by decide +kernel, rfl, by decide +kernel, by decide +kernel⟩
def sp__law_walk (K : PySem.W.Frag) : Sp := fun vs H Q _ => ∃ a t ps, vs = [.ref a, .str (wd ps)] ∧ H a = some (.tup (tv t)) ∧ ps.length ≤ 1000 ∧ (∀ i, i ≤ ps.length → big (walk t (ps.take i)) ≤ HUGE) ∧ ∀ b H', Ext H H' → H' b = some (.tup (tv (walk t ps))) → Q (.ref b) H'
theorem fn__law_walk (T : Top w K mg) {fd : FuncData} (F : Fun K "_law_walk" "_law_walk" s__law_walk (He.ga K "_law_walk") fd) : FnOk P w K mg base CX0 3 (He.ga K "_law_walk") fd ["_law_told", "_law_letters_here"] (sp__law_walk K) := by
  obtain ⟨fd__law_turn, G__law_turn, b__law_turn, k__law_turn⟩ := ok__law_turn (P := P) (w := w) (base := base) T
  refine F.ok sc__law_walk (fun vs H Q E h => ?hlen) (fun cdv A outer s H vs Q E hr h => ⟨_, (pss_cons (ps_for PassesOwn.never rfl (pi_str (pv 1)) (pg_name (i := 2) sc__law_walk.nd rfl (Or.inl rfl)) (pss_one (ps_set (i := 0) sc__law_walk.nd rfl (Or.inl rfl) (pe_call G__law_turn (hr.mono (by decide)) (by rfl) T.g__law_turn k__law_turn b__law_turn .nil pass0 (pa_cons (pv 0) (pa_cons (pv 2) pa_nil))))))
    (pss_one (ps_ret (pv 0)))), ?hrd⟩)
  case hlen =>
    obtain ⟨a, t, ps, rfl, _⟩ := h
    rfl
  case hrd =>
    obtain ⟨a, t, ps, rfl, ha, hlen, hb, q⟩ := h
    walk_at "gos"
    refine loop_str (fun i σ' H' => ∃ b y, σ' = [some (.ref b), some (.str (wd ps)), y] ∧ Ext H H' ∧ H' b = some (.tup (tv (walk t (ps.take i))))) ⟨a, none, rfl, Evl.Ex.refl _, ha⟩ ?_ ?_
    · rintro i c σ' H' hc ⟨b, y, rfl, e, hb'⟩
      obtain ⟨p, hp, rfl⟩ := wd_at hc
      have hi : i < ps.length := (List.getElem?_eq_some_iff.mp hp).1
      walk_at "gos"
      refine ⟨b, _, p, rfl, hb', hb i (by omega), fun b2 H2 e2 h2 => ?_⟩
      walk_at "gos"
      refine ⟨e.trans e2, ?_⟩
      rw [List.take_add_one, hp, walk_append]
      exact h2
    · rintro σ' H' ⟨b, y, rfl, e, hb'⟩
      rw [wd_size, List.take_length] at hb'
      walk_at "gos"
      exact q b H' e hb'
theorem ok__law_walk (T : Top w K mg) : OkD P w K mg base 3 (He.ga K "_law_walk") ["_law_told", "_law_letters_here"] (sp__law_walk K) := by
  obtain ⟨fd, F⟩ := T.f__law_walk
  exact ⟨fd, fn__law_walk T F, F.binds (ps := ["_law_told", "_law_letters_here"]) fun _ _ _ _ _ _ us hl => match us, hl with | [_, _], _ => rfl, F.kp⟩
end
end At

namespace At
open L2 PyProof.Rows PySem.Spec PySem
section
variable {base : Heap} {w : World} {K : PySem.W.Frag} {mg : Str → Option Value} {P : Program}
abbrev N__law_spread : List Str := ["_law_cup_here", "_law_top", "_law_many", "_law_told", "_law_names", "_law_letters_here", "_law_letter", "_law_turn_here"]
theorem sc__law_spread : FnScope N__law_spread ["_law_cup_here", "_law_top", "_law_many"] (defScope s__law_spread) := ⟨rfl, rfl, rfl, by decide +kernel, rfl, by decide +kernel, by decide +kernel⟩
def sp__law_spread (K : PySem.W.Frag) : Sp := fun vs H Q _ => ∃ c top many, vs = [.ref c, .int top, .int many] ∧ Cup H c ∧ 1 ≤ top ∧ top ≤ TOPB ∧ 0 ≤ many ∧ many ≤ 4 ∧ ∀ p a b t ps H', FitG top 0 t → ps.length ≤ many.toNat → ExtC c H H' → Cup H' c → H' a = some (.tup (tv (walk t ps))) → H' b = some (.tup (tv t)) → H' p = some (.tup [.ref a, .ref b]) → Q (.ref p) H'
theorem fn__law_spread (T : Top w K mg) {fd : FuncData} (F : Fun K "_law_spread" "_law_spread" s__law_spread (He.ga K "_law_spread") fd) : FnOk P w K mg base CX0 4 (He.ga K "_law_spread") fd ["_law_cup_here", "_law_top", "_law_many"] (sp__law_spread K) := by
  obtain ⟨fd__law_standing, G__law_standing, b__law_standing, k__law_standing⟩ := ok__law_standing (P := P) (w := w) (base := base) T
  obtain ⟨fd__law_pick, G__law_pick, b__law_pick, k__law_pick⟩ := ok__law_pick (P := P) (w := w) (base := base) T
  obtain ⟨fd__law_sip, G__law_sip, b__law_sip, k__law_sip⟩ := ok__law_sip (P := P) (w := w) (base := base) T
  obtain ⟨fd__law_walk, G__law_walk, b__law_walk, k__law_walk⟩ := ok__law_walk (P := P) (w := w) (base := base) T
  refine F.ok sc__law_spread (fun vs H Q E h => ?hlen) (fun cdv A outer s H vs Q E hr h => ⟨_, (pss_cons (ps_set (i := 3) sc__law_spread.nd rfl (Or.inr rfl) (pe_call G__law_standing (hr.mono (by decide)) (by rfl) T.g__law_standing k__law_standing b__law_standing .nil pass0 (pa_cons (pv 0) (pa_cons (pv 1) pa_nil))))
    (pss_cons (ps_set (i := 4) sc__law_spread.nd rfl (Or.inl rfl) (pe_call G__law_pick (hr.mono (by decide)) (by rfl) T.g__law_pick k__law_pick b__law_pick .nil pass0 (pa_cons (pv 0) (pa_cons (pe_lst (pa_cons pe_str (pa_cons pe_str (pa_cons pe_str pa_nil)))) pa_nil))))
    (pss_cons (ps_set (i := 3) sc__law_spread.nd rfl (Or.inr rfl) (pe_callTy call_tuple_of (by rfl) T.b_tuple (by decide +kernel) (pa_cons (pe_lc (own := [("_law_letter", 6)]) (g := gName 6) (tt := tYes) (by rfl) sc__law_spread.nd (pi_str (pv 4)) (blkOk_by (own := [("_law_letter", 6)]) (N := N__law_spread) (sc := defScope s__law_spread) (by decide +kernel)) (fun _ _ _ _ _ => pg_name (i := 6) sc__law_spread.nd rfl (Or.inl rfl)) (fun _ _ _ _ _ => pts_nil) (fun _ _ _ _ _ => (pe_ix (ix_tup' (K := K)) (pv 3) (pe_m1 PySem.F.slot_str_index PySem.F.type_str_index mt_sindex pe_str (pv 6)) (fun _ _ => rfl)))) pa_nil)))
    (pss_cons (ps_set (i := 5) sc__law_spread.nd rfl (Or.inl rfl) (pe_join pe_str (pe_lc (own := [("_law_turn_here", 7)]) (g := gName 7) (tt := tYes) (by rfl) sc__law_spread.nd (pi_range1 (by rfl) T.b_range (pa_cons (pe_call G__law_sip (hr.mono (by decide)) (by rfl) T.g__law_sip k__law_sip b__law_sip .nil pass0 (pa_cons (pv 0) (pa_cons (pe_op op_add (pv 2) pe_int) pa_nil))) pa_nil)) (blkOk_by (own := [("_law_turn_here", 7)]) (N := N__law_spread) (sc := defScope s__law_spread) (by decide +kernel)) (fun _ _ _ _ _ => pg_name (i := 7) sc__law_spread.nd rfl (Or.inl rfl)) (fun _ _ _ _ _ => pts_nil) (fun _ _ _ _ _ => (pe_call G__law_pick (hr.mono (by decide)) (by rfl) T.g__law_pick k__law_pick b__law_pick .nil pass0 (pa_cons (pv 0) (pa_cons (pe_lst (pa_cons pe_str (pa_cons pe_str (pa_cons pe_str pa_nil)))) pa_nil)))))))
    (pss_one (ps_ret (pe_tup (pa_cons (pe_call G__law_walk (hr.mono (by decide)) (by rfl) T.g__law_walk k__law_walk b__law_walk .nil pass0 (pa_cons (pv 3) (pa_cons (pv 5) pa_nil))) (pa_cons (pv 3) pa_nil))))))))), ?hrd⟩)
  case hlen =>
    obtain ⟨c, top, many, rfl, _⟩ := h
    rfl
  case hrd =>
    obtain ⟨c, top, many, rfl, hc, h1, h2, m0, m4, q⟩ := h
    walk_at "gos"
    refine ⟨c, top, rfl, hc, h1, h2, fun p0 t0 H1 sm e1 hc1 hp0 => ?_⟩
    walk_at "gos"
    intro l nl
    walk_at "gos"
    refine ⟨c, l, _, rfl, hc1.new nl, upd_same, ne_cup hc1 nl, Nat.succ_pos _, Nat.le_of_ble_eq_true rfl, fun x H2 hx e2 hc2 => ?_⟩
    obtain ⟨ns, rfl, ord⟩ := ord_of hx
    have e3 : ExtC c H1 H2 := (ExtC.new nl).trans e2
    have hp2 : H2 p0 = some (.tup (tv t0)) := e3.tup hc1 hp0
    have hn : (wd ns).cps.size ≤ 60000 := by
      rw [wd_size]
      rcases ord with rfl | rfl | rfl <;> decide
    obtain ⟨u, fit, eu⟩ := ord_fitG ord sm
    walk_at "gos"
    refine go_lc ?_
    walk_at "gos"
    refine lc_strP hn (fun ch => .int (go (chP ch) t0)) (fun D nD ch H' hch e QE hq => ?_) fun D nD H3 e4 hD => ?_
    · obtain ⟨s, rfl⟩ := wd_mem hch
      walk_at "gos"
      refine ⟨rfl, ?_⟩
      walk_at "gos"
      refine go_m1 ?_
      walk_at "gos"
      obtain ⟨rest, eo⟩ := occ s
      refine ⟨_, _, _, rest, rfl, rfl, eo, ?_⟩
      have es : ((s.i.toNat : Nat) : Int) = s.i := by cases s <;> rfl
      rw [es]
      refine ⟨p0, tv t0, s.i, _, rfl, rfl, SqT.of (e _ _ hp2), at_go s t0, ?_⟩
      have := hq H' (Evl.Ex.refl _)
      rw [chP_ch] at this
      exact this
    · rw [eu] at hD
      walk_at "gos"
      refine ⟨_, _, rfl, .inl ⟨SqL.of hD, fun b nb => ?_⟩⟩
      walk_at "gos"
      have hc3 : Cup H3 c := hc2.ext e4
      have eb : ExtC c H1 (upd H3 b (.tup (tv u))) := (e3.trans (ExtC.of e4)).trans (ExtC.new nb)
      refine go_m1 ?_
      refine go_lc ?_
      walk_at "gos"
      refine ⟨c, many + 1, rfl, hc3.new nb, by omega, Int.le_trans (show many + 1 ≤ 5 by omega) (by decide +kernel), fun n H4 n0 n1 e5 hc5 => ?_⟩
      walk_at "gos"
      (refine ⟨by omega, by omega, ?_⟩)
      intro D2 nD2
      have hDc : D2 ≠ c := ne_cup hc5 nD2
      refine lc_it (walk_range (lo := 0)) (fun i H' => ∃ pss : List P3, pss.length = i ∧ ExtC c H4 H' ∧ Cup H' c ∧ H' D2 = some (.lst (pss.map fun s => V.str (wd [s])))) ⟨[], rfl, ExtC.new nD2, hc5.new nD2, upd_same⟩ (fun _ _ _ _ => trivial) (fun i x H' H'' hi pv y => ?_) fun H' pv => ?_
      · obtain ⟨pss, hl, e6, hc6, hD2⟩ := pv
        obtain ⟨rfl, rfl⟩ := y
        walk_at "gos"
        refine ⟨rfl, ?_⟩
        refine go_yes ?_
        walk_at "gos"
        intro l2 nl2
        walk_at "gos"
        refine ⟨c, l2, _, rfl, hc6.new nl2, upd_same, ne_cup hc6 nl2, Nat.succ_pos _, Nat.le_of_ble_eq_true rfl, fun x H7 hx7 e7 hc7 => ?_⟩
        obtain ⟨s, rfl⟩ := abc_of hx7
        refine ⟨_, e7 D2 _ hDc (mem_new nl2 hD2), by rw [List.length_map, hl, sizeLine_eq]; omega, pss ++ [s], by rw [List.length_append, hl]; rfl, ExtC.mut ((e6.trans (ExtC.new nl2)).trans e7) nD2, hc7.past hDc, ?_⟩
        rw [upd_same, List.map_append]
        rfl
      · obtain ⟨pss, hl, e6, hc6, hD2⟩ := pv
        have hl4 : pss.length ≤ 4 := by omega
        have hJ : H' D2 = some (.lst ((pss.map fun s => [s]).map fun ps => V.str (wd ps))) := by
          rw [hD2, List.map_map]
          rfl
        obtain ⟨a', p', ys, f1, f2, f3, f4, f5⟩ := go_join (K := K) (Q := fun v _ => v = .str (wd pss)) hJ (by rw [List.length_map]; omega) (fun ps hps => by
          obtain ⟨s, _, rfl⟩ := List.mem_map.mp hps
          exact Nat.le_of_ble_eq_true rfl) (by rw [ones])
        refine ⟨a', p', ys, f1, f2, f3, f4, ?_⟩
        rw [f5]
        have e7 := e5.trans e6
        have hb' : H' b = some (.tup (tv u)) := e7.tup (hc3.new nb) upd_same
        walk_at "gos"
        refine ⟨b, u, pss, rfl, hb', by omega, fun i hi => ?_, fun b2 H8 e8 hb2 => ?_⟩
        · have := FitG.walk h1 (pss.take i) fit
          exact Int.le_trans (fitG_huge this h1 h2 (by rw [List.length_take]; omega)) (by decide +kernel)
        · walk_at "gos"
          intro p np
          have eA := e1.trans (eb.trans (e7.trans (ExtC.of e8)))
          exact q p b2 b u pss _ fit (by omega) (eA.trans (ExtC.new np)) ((hc6.ext e8).new np) (mem_new np hb2) (mem_new np (e8 _ _ hb')) upd_same
theorem ok__law_spread (T : Top w K mg) : OkD P w K mg base 4 (He.ga K "_law_spread") ["_law_cup_here", "_law_top", "_law_many"] (sp__law_spread K) := by
  obtain ⟨fd, F⟩ := T.f__law_spread
  exact ⟨fd, fn__law_spread T F, F.binds (ps := ["_law_cup_here", "_law_top", "_law_many"]) fun _ _ _ _ _ _ us hl => match us, hl with | [_, _, _], _ => rfl, F.kp⟩
end
end At

namespace At
open L2 PyProof.Rows PySem.Spec PySem
section
variable {base : Heap} {w : World} {K : PySem.W.Frag} {mg : Str → Option Value} {P : Program}
abbrev N__law_small : List Str := ["_law_cup_here", "_law_kind", "_law_k", "_law_some"]
theorem sc__law_small : FnScope N__law_small ["_law_cup_here"] (defScope s__law_small) := ⟨rfl, rfl, rfl, by decide +kernel, rfl, by decide +kernel, by decide +kernel⟩
def sp__law_small (K : PySem.W.Frag) : Sp := fun vs H Q _ => ∃ c, vs = [.ref c] ∧ Cup H c ∧ ∀ p a t ps H', Sml t ps → ExtC c H H' → Cup H' c → H' a = some (.tup (tv t)) → H' p = some (.tup [.ref a, .str (wd ps)]) → Q (.ref p) H'
theorem fn__law_small (T : Top w K mg) {fd : FuncData} (F : Fun K "_law_small" "_law_small" s__law_small (He.ga K "_law_small") fd) : FnOk P w K mg base CX0 2 (He.ga K "_law_small") fd ["_law_cup_here"] (sp__law_small K) := by
  obtain ⟨fd__law_sip, G__law_sip, b__law_sip, k__law_sip⟩ := ok__law_sip (P := P) (w := w) (base := base) T
  refine F.ok sc__law_small (fun vs H Q E h => ?hlen) (fun cdv A outer s H vs Q E hr h => ⟨_, (pss_cons (ps_par (i := 1) (j := 2) (by rfl) sc__law_small.nd rfl rfl (by decide) rfl rfl (pa_cons (pe_call G__law_sip (hr.mono (by decide)) (by rfl) T.g__law_sip k__law_sip b__law_sip .nil pass0 (pa_cons (pv 0) (pa_cons pe_int pa_nil))) (pa_cons (pe_op op_add pe_int (pe_call G__law_sip (hr.mono (by decide)) (by rfl) T.g__law_sip k__law_sip b__law_sip .nil pass0 (pa_cons (pv 0) (pa_cons pe_int pa_nil)))) pa_nil)) (by rfl))
    (pss_cons (ps_set (i := 3) sc__law_small.nd rfl (Or.inl rfl) (pe_lst (pa_cons (pe_tup (pa_cons (pe_tup (pa_cons pe_int (pa_cons (pv 2) (pa_cons (pe_op op_add (pv 2) (pe_call G__law_sip (hr.mono (by decide)) (by rfl) T.g__law_sip k__law_sip b__law_sip .nil pass0 (pa_cons (pv 0) (pa_cons pe_int pa_nil)))) pa_nil)))) (pa_cons pe_str pa_nil))) (pa_cons (pe_tup (pa_cons (pe_tup (pa_cons pe_int (pa_cons (pv 2) (pa_cons (pe_op op_sub pe_int pe_int) pa_nil)))) (pa_cons pe_str pa_nil))) (pa_cons (pe_tup (pa_cons (pe_tup (pa_cons pe_int (pa_cons pe_int (pa_cons pe_int pa_nil)))) (pa_cons pe_str pa_nil))) (pa_cons (pe_tup (pa_cons (pe_tup (pa_cons pe_int (pa_cons (pv 2) (pa_cons pe_int pa_nil)))) (pa_cons pe_str pa_nil))) pa_nil))))))
    (pss_one (ps_ret (pe_ix ix_list (pv 3) (pv 1) (fun _ _ => rfl)))))), ?hrd⟩)
  case hlen =>
    obtain ⟨c, rfl, _⟩ := h
    rfl
  case hrd =>
    obtain ⟨c, rfl, hc, q⟩ := h
    walk_at "gos"
    refine ⟨c, 4, rfl, hc, by decide, by decide +kernel, fun kind H1 a0 a1 e1 hc1 => ?_⟩
    walk_at "gos"
    refine ⟨c, 30, rfl, hc1, by decide, by decide +kernel, fun k0 H2 b0 b1 e2 hc2 => ?_⟩
    walk_at "gos"
    refine ⟨c, 5, rfl, hc2, by decide, by decide +kernel, fun s H3 d0 d1 e3 hc3 => ?_⟩
    walk_at "gos"
    intro t1 nt1
    walk_at "gos"
    intro p1 np1
    walk_at "gos"
    intro t2 nt2
    walk_at "gos"
    intro p2 np2
    walk_at "gos"
    intro t3 nt3
    walk_at "gos"
    intro p3 np3
    walk_at "gos"
    intro t4 nt4
    walk_at "gos"
    intro p4 np4
    walk_at "gos"
    intro l nl
    walk_at "gos"
    have ex : Ext H3 (upd (upd (upd (upd (upd (upd (upd (upd (upd H3 t1 (.tup [.int 2, .int (2 + k0), .int (2 + k0 + s)])) p1 (.tup [.ref t1, .str (wd [.a, .b])])) t2 (.tup [.int 1, .int (2 + k0), .int (0 - 5)])) p2 (.tup [.ref t2, .str (wd [.b, .a])])) t3 (.tup [.int 1, .int 1, .int 0])) p3 (.tup [.ref t3, .str (wd [.a, .b, .c])])) t4 (.tup [.int 0, .int (2 + k0), .int 3])) p4 (.tup [.ref t4, .str (wd [.a, .b])])) l (.lst [.ref p1, .ref p2, .ref p3, .ref p4])) := (ext_new (ext_new (ext_new (ext_new (ext_new (ext_new (ext_new (ext_new (ext_new (Evl.Ex.refl H3) nt1) np1) nt2) np2) nt3) np3) nt4) np4) nl)
    have eA := ((e1.trans e2).trans e3).trans (ExtC.of ex)
    have hcA := hc3.ext ex
    have four : kind = 0 ∨ kind = 1 ∨ kind = 2 ∨ kind = 3 := by omega
    rcases four with rfl | rfl | rfl | rfl
    · refine go_rIxL (j := 0) (v := .ref p1) (SqL.of upd_same) (atI_nat (j := 0) rfl) ?_
      exact q p1 t1 (2, 2 + k0, 2 + k0 + s) [.a, .b] _ (.inl ⟨2 + k0, s, by omega, by omega, by omega, by omega, rfl, rfl⟩) eA hcA (mem_new nl (mem_new np4 (mem_new nt4 (mem_new np3 (mem_new nt3 (mem_new np2 (mem_new nt2 (mem_new np1 upd_same)))))))) (mem_new nl (mem_new np4 (mem_new nt4 (mem_new np3 (mem_new nt3 (mem_new np2 (mem_new nt2 upd_same)))))))
    · refine go_rIxL (j := 1) (v := .ref p2) (SqL.of upd_same) (atI_nat (j := 1) rfl) ?_
      exact q p2 t2 (1, 2 + k0, -5) [.b, .a] _ (.inr (.inl ⟨2 + k0, by omega, by omega, rfl, rfl⟩)) eA hcA (mem_new nl (mem_new np4 (mem_new nt4 (mem_new np3 (mem_new nt3 (mem_new np2 upd_same)))))) (mem_new nl (mem_new np4 (mem_new nt4 (mem_new np3 (mem_new nt3 upd_same)))))
    · refine go_rIxL (j := 2) (v := .ref p3) (SqL.of upd_same) (atI_nat (j := 2) rfl) ?_
      exact q p3 t3 (1, 1, 0) [.a, .b, .c] _ (.inr (.inr (.inl ⟨rfl, rfl⟩))) eA hcA (mem_new nl (mem_new np4 (mem_new nt4 (mem_new np3 upd_same)))) (mem_new nl (mem_new np4 (mem_new nt4 upd_same)))
    · refine go_rIxL (j := 3) (v := .ref p4) (SqL.of upd_same) (atI_nat (j := 3) rfl) ?_
      exact q p4 t4 (0, 2 + k0, 3) [.a, .b] _ (.inr (.inr (.inr ⟨2 + k0, by omega, by omega, rfl, rfl⟩))) eA hcA (mem_new nl (mem_new np4 upd_same)) (mem_new nl upd_same)
theorem ok__law_small (T : Top w K mg) : OkD P w K mg base 2 (He.ga K "_law_small") ["_law_cup_here"] (sp__law_small K) := by
  obtain ⟨fd, F⟩ := T.f__law_small
  exact ⟨fd, fn__law_small T F, F.binds (ps := ["_law_cup_here"]) fun _ _ _ _ _ _ us hl => match us, hl with | [_], _ => rfl, F.kp⟩
end
end At

namespace At
open L2 PyProof.Rows PySem.Spec PySem
section
variable {base : Heap} {w : World} {K : PySem.W.Frag} {mg : Str → Option Value} {P : Program}
abbrev N_Standing_numbers : List Str := ["self"]
theorem sc_Standing_numbers : FnScope N_Standing_numbers ["self"] (defScope s_Standing_numbers) := ⟨rfl, rfl, rfl, by decide +kernel, rfl, by decide +kernel, by decide +kernel⟩
def sp_Standing_numbers (K : PySem.W.Frag) : Sp := fun vs H Q _ => ∃ s t, vs = [.ref s] ∧ StAt K H s t ∧ ∀ n, H n = some (.tup (tv t)) → Q (.ref n) H
theorem fn_Standing_numbers (T : Top w K mg) {fd : FuncData} (F : Fun K "numbers" "Standing.numbers" s_Standing_numbers (getter K "Standing" "numbers") fd) : FnOk P w K mg base CX0 1 (getter K "Standing" "numbers") fd ["self"] (sp_Standing_numbers K) := by
  refine F.ok sc_Standing_numbers (fun vs H Q E h => ?hlen) (fun cdv A outer s H vs Q E hr h => ⟨_, (pss_one (ps_ret (pe_fld (pv 0) rfl))), ?hrd⟩)
  case hlen =>
    obtain ⟨s, t, rfl, _⟩ := h
    rfl
  case hrd =>
    obtain ⟨s, t, rfl, ⟨dx, n, hs, hn⟩, q⟩ := h
    walk_at "gos"
    exact ⟨s, _, dx, _, _, rfl, hs, T.c_Standing, T.na_Standing_numbers, rfl, q n hn⟩
theorem ok_Standing_numbers (T : Top w K mg) : OkD P w K mg base 1 (getter K "Standing" "numbers") ["self"] (sp_Standing_numbers K) := by
  obtain ⟨fd, F⟩ := T.f_Standing_numbers
  exact ⟨fd, fn_Standing_numbers T F, F.binds (ps := ["self"]) fun _ _ _ _ _ _ us hl => match us, hl with | [_], _ => rfl, F.kp⟩
end
end At

namespace At
open L2 PyProof.Rows PySem.Spec PySem
section
variable {base : Heap} {w : World} {K : PySem.W.Frag} {mg : Str → Option Value} {P : Program}
abbrev N_check_standing : List Str := ["value"]
theorem sc_check_standing : FnScope N_check_standing ["value"] (defScope s_check_standing) := ⟨rfl, rfl, rfl, by decide +kernel, rfl, by decide +kernel, by decide +kernel⟩
def sp_check_standing (K : PySem.W.Frag) : Sp := fun vs H Q _ => ∃ s t, vs = [.ref s] ∧ StAt K H s t ∧ Q .non H
theorem fn_check_standing (T : Top w K mg) {fd : FuncData} (F : Fun K "check_standing" "check_standing" s_check_standing (He.ga K "check_standing") fd) : FnOk P w K mg base CX0 1 (He.ga K "check_standing") fd ["value"] (sp_check_standing K) := by
  refine F.ok sc_check_standing (fun vs H Q E h => ?hlen) (fun cdv A outer s H vs Q E hr h => ⟨_, (pss_one (ps_if (pt_not (pt_val (pe_callB call_isi (by rfl) T.b_isinstance (by decide +kernel) (pa_cons (pv 0) (pa_cons (pe_glob (v := .ref _) rfl T.g_Standing rfl) pa_nil))))) (pss_one ps_never) pss_nil)), ?hrd⟩)
  case hlen =>
    obtain ⟨s, t, rfl, _⟩ := h
    rfl
  case hrd =>
    obtain ⟨s, t, rfl, ⟨dx, n, hs, hn⟩, q⟩ := h
    walk_at "gos"
    refine go_isO T.x_is_Standing T.c_Standing hs ?_
    walk_at "gos"
    exact q
theorem ok_check_standing (T : Top w K mg) : OkD P w K mg base 1 (He.ga K "check_standing") ["value"] (sp_check_standing K) := by
  obtain ⟨fd, F⟩ := T.f_check_standing
  exact ⟨fd, fn_check_standing T F, F.binds (ps := ["value"]) fun _ _ _ _ _ _ us hl => match us, hl with | [_], _ => rfl, F.kp⟩
end
end At

namespace At
open L2 PyProof.Rows PySem.Spec PySem
section
variable {base : Heap} {w : World} {K : PySem.W.Frag} {mg : Str → Option Value} {P : Program}
abbrev N_check_numbers : List Str := ["numbers", "index", "number"]
theorem sc_check_numbers : FnScope N_check_numbers ["numbers"] (defScope s_check_numbers) := ⟨rfl, rfl, rfl, by decide +kernel, rfl, by decide +kernel, by decide +kernel⟩
def sp_check_numbers (K : PySem.W.Frag) : Sp := fun vs H Q _ => ∃ a t, vs = [.ref a] ∧ H a = some (.tup (tv t)) ∧ big t ≤ GR ∧ ∀ H', Ext H H' → Q .non H'
theorem fn_check_numbers (T : Top w K mg) {fd : FuncData} (F : Fun K "check_numbers" "check_numbers" s_check_numbers (He.ga K "check_numbers") fd) : FnOk P w K mg base CX0 3 (He.ga K "check_numbers") fd ["numbers"] (sp_check_numbers K) := by
  obtain ⟨fd_is_integer_within, G_is_integer_within, b_is_integer_within, k_is_integer_within⟩ := ok_is_integer_within (P := P) (w := w) (base := base) T
  obtain ⟨u_GREATEST, e_GREATEST, r_GREATEST⟩ := T.n_GREATEST
  refine F.ok sc_check_numbers (fun vs H Q E h => ?hlen) (fun cdv A outer s H vs Q E hr h => ⟨_, (pss_one (ps_for PassesOwn.never rfl (pi_enumT (by rfl) T.b_enumerate (pa_cons (pv 0) pa_nil)) (pg_tup (by rfl) (pgs_cons (pg_name (i := 1) sc_check_numbers.nd rfl (Or.inl rfl)) (pgs_cons (pg_name (i := 2) sc_check_numbers.nd rfl (Or.inl rfl)) pgs_nil))) (pss_one (ps_if (pt_not (pt_val (pe_call G_is_integer_within (hr.mono (by decide)) (by rfl) T.g_is_integer_within k_is_integer_within b_is_integer_within .nil pass0 (pa_cons (pv 2) (pa_cons (pe_un un_neg (pe_glob rfl e_GREATEST r_GREATEST)) (pa_cons (pe_glob rfl e_GREATEST r_GREATEST) pa_nil)))))) (pss_one ps_never) pss_nil)))), ?hrd⟩)
  case hlen =>
    obtain ⟨a, t, rfl, _⟩ := h
    rfl
  case hrd =>
    obtain ⟨a, t, rfl, ha, hb, q⟩ := h
    obtain ⟨b1, b2, b3⟩ := big_le.mp hb
    have lo : ∀ x : Int, nat x ≤ GR → -GR ≤ x ∧ x ≤ GR := fun x h => by unfold nat at h; split at h <;> omega
    walk_at "gos"
    refine ⟨a, _, rfl, SqT.of ha, ?_⟩
    refine loop_enumT (fun i σ' H' => ∃ y z, σ' = [some (.ref a), y, z] ∧ Ext H H') ⟨none, none, rfl, Evl.Ex.refl _⟩ (fun i σ' H' _ ⟨y, z, _, e⟩ => SqT.of (e a _ ha)) ?_ ?_
    · rintro i x σ' H' T0 hx ⟨y, z, rfl, e⟩ nT
      obtain ⟨n, rfl, hn⟩ : ∃ n : Int, x = .int n ∧ nat n ≤ GR := by
        have := List.mem_of_getElem? hx
        simp only [tv, List.mem_cons, List.not_mem_nil, or_false] at this
        rcases this with rfl | rfl | rfl <;> exact ⟨_, rfl, by assumption⟩
      walk_at "gos"
      refine go_gTup (SqT.of upd_same) rfl ?_
      walk_at "gos"
      refine ⟨n, _, _, rfl, (lo n hn).1, (lo n hn).2, ?_⟩
      walk_at "gos"
      exact ext_new e nT
    · rintro σ' H' ⟨y, z, rfl, e⟩
      walk_at "gos"
      exact q H' e
theorem ok_check_numbers (T : Top w K mg) : OkD P w K mg base 3 (He.ga K "check_numbers") ["numbers"] (sp_check_numbers K) := by
  obtain ⟨fd, F⟩ := T.f_check_numbers
  exact ⟨fd, fn_check_numbers T F, F.binds (ps := ["numbers"]) fun _ _ _ _ _ _ us hl => match us, hl with | [_], _ => rfl, F.kp⟩
end
end At

namespace At
open L2 PyProof.Rows PySem.Spec PySem
section
variable {base : Heap} {w : World} {K : PySem.W.Frag} {mg : Str → Option Value} {P : Program}
abbrev N_Standing___init__ : List Str := ["self", "x", "y", "z"]
theorem sc_Standing___init__ : FnScope N_Standing___init__ ["self", "x", "y", "z"] (defScope s_Standing___init__) := ⟨rfl, rfl, rfl, by decide +kernel, rfl, by decide +kernel, by decide +kernel⟩
def sp_Standing___init__ (K : PySem.W.Frag) : Sp := fun vs H Q _ => ∃ s dx t H1, vs = .ref s :: tv t ∧ H s = some (.ins (He.ga K "Standing") dx []) ∧ Ext H1 H ∧ H1 s = none ∧ big t ≤ GR ∧ ∀ n H', Ext H1 H' → H' s = some (.ins (He.ga K "Standing") dx [("_numbers", .ref n)]) → H' n = some (.tup (tv t)) → Q .non H'
theorem fn_Standing___init__ (T : Top w K mg) {fd : FuncData} (F : Fun K "__init__" "Standing.__init__" s_Standing___init__ (method K "Standing" "__init__") fd) : FnOk P w K mg base CX0 4 (method K "Standing" "__init__") fd ["self", "x", "y", "z"] (sp_Standing___init__ K) := by
  obtain ⟨fd_check_numbers, G_check_numbers, b_check_numbers, k_check_numbers⟩ := ok_check_numbers (P := P) (w := w) (base := base) T
  refine F.ok sc_Standing___init__ (fun vs H Q E h => ?hlen) (fun cdv A outer s H vs Q E hr h => ⟨_, (pss_cons (ps_expr (pe_call G_check_numbers (hr.mono (by decide)) (by rfl) T.g_check_numbers k_check_numbers b_check_numbers .nil pass0 (pa_cons (pe_tup (pa_cons (pv 1) (pa_cons (pv 2) (pa_cons (pv 3) pa_nil)))) pa_nil)))
    (pss_one (ps_fld (pv 0) (pe_tup (pa_cons (pv 1) (pa_cons (pv 2) (pa_cons (pv 3) pa_nil)))) rfl))), ?hrd⟩)
  case hlen =>
    obtain ⟨s, dx, t, H1, rfl, _⟩ := h
    rfl
  case hrd =>
    obtain ⟨s, dx, t, H1, rfl, hs, e1, n1, hb, q⟩ := h
    walk_at "gos"
    intro p np
    walk_at "gos"
    refine ⟨p, t, rfl, upd_same, hb, fun H2 e2 => ?_⟩
    walk_at "gos"
    intro n nn
    walk_at "gos"
    have hs2 : H2 s = some (.ins (He.ga K "Standing") dx []) := e2 _ _ (mem_new np hs)
    have hsn : n ≠ s := fun z => by
      rw [z, hs2] at nn
      cases nn
    refine ⟨s, _, dx, _, rfl, mem_new nn hs2, T.c_Standing, T.na_Standing_numbers, by decide, ?_⟩
    refine q n _ ((e1.trans ((Evl.Ex.new np).trans (e2.trans (Evl.Ex.new nn)))).mut n1) upd_same ?_
    rw [upd_ne hsn, upd_same]
    rfl
theorem ok_Standing___init__ (T : Top w K mg) : OkD P w K mg base 4 (method K "Standing" "__init__") ["self", "x", "y", "z"] (sp_Standing___init__ K) := by
  obtain ⟨fd, F⟩ := T.f_Standing___init__
  exact ⟨fd, fn_Standing___init__ T F, F.binds (ps := ["self", "x", "y", "z"]) fun _ _ _ _ _ _ us hl => match us, hl with | [_, _, _, _], _ => rfl, F.kp⟩
def zxy {α : Type} : List α → List α → List α
  | [s], [z, x, y] => [s, x, y, z]
  | us, ws => us ++ ws
theorem zxy_rel {vs : List V} {us : List Value} {zs : List V} {ws : List Value} (a : Vals vs us) (b : Vals zs ws) : Vals (zxy vs zs) (zxy us ws) := by
  match vs, us, a, zs, ws, b with
  | [_], [_], .cons r .nil, [_, _, _], [_, _, _], .cons p (.cons q (.cons t .nil)) => exact .cons r (.cons q (.cons t (.cons p .nil)))
  | [], [], .nil, _, _, b => exact b
  | [_], [_], .cons r .nil, [], [], .nil => exact .cons r .nil
  | [_], [_], .cons r .nil, [_], [_], .cons p .nil => exact .cons r (.cons p .nil)
  | [_], [_], .cons r .nil, [_, _], [_, _], .cons p (.cons q .nil) => exact .cons r (.cons p (.cons q .nil))
  | [_], [_], .cons r .nil, _ :: _ :: _ :: _ :: _, _ :: _ :: _ :: _ :: _, b => exact .cons r b
  | _ :: _ :: _, _ :: _ :: _, a, _, _, b => exact a.append b
theorem okk_Standing___init__ (T : Top w K mg) : ∃ fd, FnOk P w K mg base CX0 4 (method K "Standing" "__init__") fd ["self", "x", "y", "z"] (sp_Standing___init__ K) ∧ KBn K fd ["self", "x", "y", "z"] 1 ["z", "x", "y"] (fun us ws => zxy us ws) (fun vs zs => zxy vs zs) := by
  obtain ⟨fd, F⟩ := T.f_Standing___init__
  exact ⟨fd, fn_Standing___init__ T F, kbn_of F 1 _ zxy zxy_rel fun _ _ _ _ _ _ us ws l1 l2 => match us, ws, l1, l2 with | [_], [_, _, _], _, _ => rfl⟩
end
end At

namespace At
open L2 PyProof.Rows PySem.Spec PySem
section
variable {base : Heap} {w : World} {K : PySem.W.Frag} {mg : Str → Option Value} {P : Program}
abbrev N_way_and_core : List Str := ["places", "cut"]
theorem sc_way_and_core : FnScope N_way_and_core ["places"] (defScope s_way_and_core) := ⟨rfl, rfl, rfl, by decide +kernel, rfl, by decide +kernel, by decide +kernel⟩
def sp_way_and_core (K : PySem.W.Frag) : Sp := fun vs H Q _ => ∃ a ps, vs = [.ref a] ∧ H a = some (.lst (pl ps)) ∧ ps.length ≤ 1000 ∧ ∀ w c pw pc p H', ps = w ++ c ++ w.reverse → (c.length ≤ 1 ∨ c.head? ≠ c.getLast?) → Ext H H' → H' pw = some (.lst (pl w)) → H' pc = some (.lst (pl c)) → H' p = some (.tup [.ref pw, .ref pc]) → Q (.ref p) H'
theorem fn_way_and_core (T : Top w K mg) {fd : FuncData} (F : Fun K "way_and_core" "way_and_core" s_way_and_core (He.ga K "way_and_core") fd) : FnOk P w K mg base CX0 1 (He.ga K "way_and_core") fd ["places"] (sp_way_and_core K) := by
  refine F.ok sc_way_and_core (fun vs H Q E h => ?hlen) (fun cdv A outer s H vs Q E hr h => ⟨_, (pss_cons (ps_set (i := 1) sc_way_and_core.nd rfl (Or.inl rfl) pe_int)
    (pss_cons (ps_while PassesOwn.never (PW.pt (pw_and (pt_cmpR op_gt (pe_op op_sub (pe_callB call_len_seq (by rfl) T.b_len PySem.boot_len (pa_cons (pv 0) pa_nil)) (pe_op op_mul pe_int (pv 1))) pe_int (nomark _)) (pw_and1 (pt_cmpR op_eq (pe_ix ix_list (pv 0) (pv 1) (fun _ _ => rfl)) (pe_ix ix_list (pv 0) (pe_op op_sub (pe_un un_neg pe_int) (pv 1)) (fun _ _ => rfl)) (nomark _))))) (pss_one (ps_aug (i := 1) sc_way_and_core.nd rfl (Or.inl rfl) pe_int ip_add)))
    (pss_one (ps_ret (pe_tup (pa_cons (pe_slice sl_list (pv 0) po_none (po_some (pv 1))) (pa_cons (pe_slice sl_list (pv 0) (po_some (pv 1)) (po_some (pe_op op_sub (pe_callB call_len_seq (by rfl) T.b_len PySem.boot_len (pa_cons (pv 0) pa_nil)) (pv 1)))) pa_nil))))))), ?hrd⟩)
  case hlen =>
    obtain ⟨a, ps, rfl, _⟩ := h
    rfl
  case hrd =>
    obtain ⟨a, ps, rfl, ha, hlen, q⟩ := h
    have el : (pl ps).length = ps.length := List.length_map ..
    walk_at "gos"
    refine go_while (fun m σ' H' => H' = H ∧ ∃ w c, ps = w ++ c ++ w.reverse ∧ m = c.length ∧ σ' = [some (.ref a), some (.int (w.length : Int))]) ps.length ⟨rfl, [], ps, by simp, rfl, rfl⟩ ?_
    rintro m σ' H' ⟨rfl, w, c, hps, rfl, rfl⟩
    have hl : ps.length = 2 * w.length + c.length := by
      rw [hps, List.length_append, List.length_append, List.length_reverse]
      omega
    walk_at "gos"
    refine ⟨_, _, rfl, .inl (SqL.of ha), ?_⟩
    have fin : (c.length ≤ 1 ∨ c.head? ≠ c.getLast?) → ∀ pw pc p H2, Ext H' H2 → H2 pw = some (.lst (cutV (pl ps) none (some (w.length : Int)))) → H2 pc = some (.lst (cutV (pl ps) (some (w.length : Int)) (some ((pl ps).length - (w.length : Int))))) → H2 p = some (.tup [.ref pw, .ref pc]) → Q (.ref p) H2 := fun hc pw pc p H2 e hw hcc hp => by
      have e1 : cutV (pl ps) none (some (w.length : Int)) = pl w := by
        rw [cut_to _ _ (by rw [el]; omega), hps, List.append_assoc, pl, List.map_append, List.take_append_of_le_length (by rw [List.length_map]; exact Nat.le_refl _), ← List.length_map (f := fun p : P3 => V.int p.i), List.take_length]
        rfl
      have e2 : cutV (pl ps) (some (w.length : Int)) (some ((pl ps).length - (w.length : Int))) = pl c := by
        rw [el, cut_mid _ _ _ (by omega) (by omega) (by rw [el]; omega), show ((ps.length : Int) - (w.length : Int)).toNat - w.length = c.length by omega, hps]
        exact core_cut w c
      exact q w c pw pc p H2 hps hc e (by rw [hw, e1]) (by rw [hcc, e2]) hp
    walk_at "gos"
    refine go_ite (fun h2 => ?_) (fun h2 => ?_)
    · have h1 : 1 < c.length := by rw [el] at h2; omega
      obtain ⟨x, m, z, rfl⟩ : ∃ x m z, c = x :: (m ++ [z]) := by
        cases c with
        | nil => cases h1
        | cons x r =>
          cases hz : r.getLast? with
          | none =>
            rw [List.getLast?_eq_none_iff.mp hz] at h1
            exact absurd h1 (Nat.lt_irrefl _)
          | some z => exact ⟨x, r.dropLast, z, by rw [← drop_last hz]⟩
      walk_at "gos"
      have g1 : atI (pl ps) (w.length : Int) = some (.int x.i) := by
        refine atI_nat (j := w.length) ?_
        rw [hps, pl, List.getElem?_map, List.append_assoc, List.getElem?_append_right (Nat.le_refl _), Nat.sub_self]
        rfl
      have g2 : atI (pl ps) (-1 - (w.length : Int)) = some (.int z.i) := by
        have e1 : ps = (w ++ x :: m) ++ z :: w.reverse := by rw [hps]; simp
        rw [e1, pl, List.map_append, List.map_cons]
        exact atI_back _ _ _ (by rw [List.length_map, List.length_reverse])
      refine go_rIxL (SqL.of ha) g1 ?_
      walk_at "gos"
      refine go_rIxL (SqL.of ha) g2 ?_
      walk_at "gos"
      refine go_ite (fun he => ?_) (fun he => ?_)
      · have exz : x = z := p3_inj he
        subst exz
        refine ⟨fun σ' H2 => H2 = H' ∧ ∃ w c, ps = w ++ c ++ w.reverse ∧ c.length < (x :: (m ++ [x])).length ∧ σ' = [some (.ref a), some (.int (w.length : Int))], ?_, ?_⟩
        · rintro σ2 H2 ⟨rfl, w2, c2, h3, h4, h5⟩
          exact ⟨_, h4, rfl, w2, c2, h3, rfl, h5⟩
        · walk_at "gos"
          refine ⟨rfl, w ++ [x], m, ?_, ?_, ?_⟩
          · rw [hps]; simp
          · simp only [List.length_cons, List.length_append, List.length_nil]; omega
          · rw [List.length_append]; rfl
      · walk_at "gos"
        refine ⟨_, _, rfl, SqL.of ha, fun pw nw => ?_⟩
        walk_at "gos"
        refine ⟨_, _, rfl, .inl (SqL.of (mem_new nw ha)), ?_⟩
        walk_at "gos"
        refine ⟨_, _, rfl, SqL.of (mem_new nw ha), fun pc nc => ?_⟩
        walk_at "gos"
        intro p np
        refine fin (.inr ?_) pw pc p _ (ext_new (ext_new (Evl.Ex.new nw) nc) np) (mem_new np (mem_new nc upd_same)) (mem_new np upd_same) upd_same
        show some x ≠ (x :: (m ++ [z])).getLast?
        rw [show x :: (m ++ [z]) = (x :: m) ++ [z] by rfl, List.getLast?_concat]
        exact fun q => he (by rw [Option.some.inj q])
    · walk_at "gos"
      refine ⟨_, _, rfl, SqL.of ha, fun pw nw => ?_⟩
      walk_at "gos"
      refine ⟨_, _, rfl, .inl (SqL.of (mem_new nw ha)), ?_⟩
      walk_at "gos"
      refine ⟨_, _, rfl, SqL.of (mem_new nw ha), fun pc nc => ?_⟩
      walk_at "gos"
      intro p np
      refine fin (.inl (by rw [el] at h2; omega)) pw pc p _ (ext_new (ext_new (Evl.Ex.new nw) nc) np) (mem_new np (mem_new nc upd_same)) (mem_new np upd_same) upd_same
theorem ok_way_and_core (T : Top w K mg) : OkD P w K mg base 1 (He.ga K "way_and_core") ["places"] (sp_way_and_core K) := by
  obtain ⟨fd, F⟩ := T.f_way_and_core
  exact ⟨fd, fn_way_and_core T F, F.binds (ps := ["places"]) fun _ _ _ _ _ _ us hl => match us, hl with | [_], _ => rfl, F.kp⟩
end
end At

namespace At
open L2 PyProof.Rows PySem.Spec PySem
section
variable {base : Heap} {w : World} {K : PySem.W.Frag} {mg : Str → Option Value} {P : Program}
abbrev N_place_before : List Str := ["place"]
theorem sc_place_before : FnScope N_place_before ["place"] (defScope s_place_before) := ⟨rfl, rfl, rfl, by decide +kernel, rfl, by decide +kernel, by decide +kernel⟩
def sp_place_before (K : PySem.W.Frag) : Sp := fun vs H Q _ => ∃ p : P3, vs = [.int p.i] ∧ Q (.int (prv p).i) H
theorem fn_place_before (T : Top w K mg) {fd : FuncData} (F : Fun K "place_before" "place_before" s_place_before (He.ga K "place_before") fd) : FnOk P w K mg base CX0 1 (He.ga K "place_before") fd ["place"] (sp_place_before K) := by
  refine F.ok sc_place_before (fun vs H Q E h => ?hlen) (fun cdv A outer s H vs Q E hr h => ⟨_, (pss_one (ps_ret (pe_op op_modN (pe_op op_add (pv 0) pe_int) pe_int))), ?hrd⟩)
  case hlen =>
    obtain ⟨p, rfl, _⟩ := h
    rfl
  case hrd =>
    obtain ⟨p, rfl, q⟩ := h
    walk_at "gos"
    have e : (p.i + 2).fmod 3 = (prv p).i := by cases p <;> rfl
    show Q (.int ((p.i + 2).fmod 3)) H
    rw [e]
    exact q
theorem ok_place_before (T : Top w K mg) : OkD P w K mg base 1 (He.ga K "place_before") ["place"] (sp_place_before K) := by
  obtain ⟨fd, F⟩ := T.f_place_before
  exact ⟨fd, fn_place_before T F, F.binds (ps := ["place"]) fun _ _ _ _ _ _ us hl => match us, hl with | [_], _ => rfl, F.kp⟩
end
end At

namespace At
open L2 PyProof.Rows PySem.Spec PySem
section
variable {base : Heap} {w : World} {K : PySem.W.Frag} {mg : Str → Option Value} {P : Program}
abbrev N_place_behind : List Str := ["place"]
theorem sc_place_behind : FnScope N_place_behind ["place"] (defScope s_place_behind) := ⟨rfl, rfl, rfl, by decide +kernel, rfl, by decide +kernel, by decide +kernel⟩
def sp_place_behind (K : PySem.W.Frag) : Sp := fun vs H Q _ => ∃ p : P3, vs = [.int p.i] ∧ Q (.int (nxt p).i) H
theorem fn_place_behind (T : Top w K mg) {fd : FuncData} (F : Fun K "place_behind" "place_behind" s_place_behind (He.ga K "place_behind") fd) : FnOk P w K mg base CX0 1 (He.ga K "place_behind") fd ["place"] (sp_place_behind K) := by
  refine F.ok sc_place_behind (fun vs H Q E h => ?hlen) (fun cdv A outer s H vs Q E hr h => ⟨_, (pss_one (ps_ret (pe_op op_modN (pe_op op_add (pv 0) pe_int) pe_int))), ?hrd⟩)
  case hlen =>
    obtain ⟨p, rfl, _⟩ := h
    rfl
  case hrd =>
    obtain ⟨p, rfl, q⟩ := h
    walk_at "gos"
    have e : (p.i + 1).fmod 3 = (nxt p).i := by cases p <;> rfl
    show Q (.int ((p.i + 1).fmod 3)) H
    rw [e]
    exact q
theorem ok_place_behind (T : Top w K mg) : OkD P w K mg base 1 (He.ga K "place_behind") ["place"] (sp_place_behind K) := by
  obtain ⟨fd, F⟩ := T.f_place_behind
  exact ⟨fd, fn_place_behind T F, F.binds (ps := ["place"]) fun _ _ _ _ _ _ us hl => match us, hl with | [_], _ => rfl, F.kp⟩
end
end At

namespace At
open L2 PyProof.Rows PySem.Spec PySem
section
variable {base : Heap} {w : World} {K : PySem.W.Frag} {mg : Str → Option Value} {P : Program}
abbrev N_turned_at : List Str := ["numbers", "place", "before", "opposite", "coming", "going", "across", "behind"]
theorem sc_turned_at : FnScope N_turned_at ["numbers", "place"] (defScope s_turned_at) := ⟨rfl, rfl, rfl, by decide +kernel, rfl, by decide +kernel, by decide +kernel⟩
def sp_turned_at (K : PySem.W.Frag) : Sp := fun vs H Q _ => ∃ a t p, vs = [.ref a, .int (P3.i p)] ∧ H a = some (.tup (tv t)) ∧ big t ≤ HUGE ∧ ∀ p' H', H p' = none → Ext H H' → H' p' = some (.tup (tv (turn p t))) → Q (.ref p') H'
theorem fn_turned_at (T : Top w K mg) {fd : FuncData} (F : Fun K "turned_at" "turned_at" s_turned_at (He.ga K "turned_at") fd) : FnOk P w K mg base CX0 2 (He.ga K "turned_at") fd ["numbers", "place"] (sp_turned_at K) := by
  obtain ⟨fd_place_before, G_place_before, b_place_before, k_place_before⟩ := ok_place_before (P := P) (w := w) (base := base) T
  obtain ⟨fd_place_behind, G_place_behind, b_place_behind, k_place_behind⟩ := ok_place_behind (P := P) (w := w) (base := base) T
  refine F.ok sc_turned_at (fun vs H Q E h => ?hlen) (fun cdv A outer s H vs Q E hr h => ⟨_, (pss_cons (ps_set (i := 2) sc_turned_at.nd rfl (Or.inl rfl) (pe_call G_place_before (hr.mono (by decide)) (by rfl) T.g_place_before k_place_before b_place_before .nil pass0 (pa_cons (pv 1) pa_nil)))
    (pss_cons (ps_set (i := 3) sc_turned_at.nd rfl (Or.inl rfl) (pe_call G_place_behind (hr.mono (by decide)) (by rfl) T.g_place_behind k_place_behind b_place_behind .nil pass0 (pa_cons (pv 1) pa_nil)))
    (pss_cons (ps_par3 (i := 4) (j := 5) (l := 6) (by rfl) sc_turned_at.nd rfl rfl rfl (by decide) (by decide) (by decide) rfl rfl rfl (pa_cons (pe_ix ix_tup (pv 0) (pv 2) (fun _ _ => rfl)) (pa_cons (pe_ix ix_tup (pv 0) (pv 1) (fun _ _ => rfl)) (pa_cons (pe_ix ix_tup (pv 0) (pv 3) (fun _ _ => rfl)) pa_nil))) (by rfl))
    (Evl.pss_cut (ps_if (PW.pt (pw_and (pt_cmpR op_gt (pv 4) pe_int (nomark _)) (pw_and1 (pt_cmpR op_gt (pv 5) pe_int (nomark _))))) (pss_one (ps_set (i := 6) sc_turned_at.nd rfl (Or.inl rfl) (pe_op op_sub (pv 6) (pe_op op_mulW (pv 4) (pv 5))))) (pss_one (ps_if (PW.pt (pw_and (pt_cmpR op_lt (pv 4) pe_int (nomark _)) (pw_and1 (pt_cmpR op_lt (pv 5) pe_int (nomark _))))) (pss_one (ps_set (i := 6) sc_turned_at.nd rfl (Or.inl rfl) (pe_op op_add (pv 6) (pe_op op_mulW (pv 4) (pv 5))))) pss_nil)))
    (pss_cons (ps_set (i := 7) sc_turned_at.nd rfl (Or.inl rfl) (pe_lst (pa_cons (pv 6) (pa_cons (pv 6) (pa_cons (pv 6) pa_nil)))))
    (pss_cons (ps_asg (pe_un un_neg (pv 4)) (pg_sub (pv 7) (pv 2) set_list))
    (pss_cons (ps_asg (pe_un un_neg (pv 5)) (pg_sub (pv 7) (pv 1) set_list))
    (pss_one (ps_ret (pe_callTy call_tuple_of (by rfl) T.b_tuple (by decide +kernel) (pa_cons (pv 7) pa_nil))))))))))), ?hrd⟩)
  case hlen =>
    obtain ⟨a, t, p, rfl, _⟩ := h
    rfl
  case hrd =>
    obtain ⟨a, t, p, rfl, ha, hb, q⟩ := h
    walk_at "gos"
    refine ⟨p, rfl, ?_⟩
    walk_at "gos"
    refine ⟨p, rfl, ?_⟩
    walk_at "gos"
    refine go_rIxT (SqT.of ha) (at_co p t) ?_
    walk_at "gos"
    refine go_rIxT (SqT.of ha) (at_go p t) ?_
    walk_at "gos"
    refine go_rIxT (SqT.of ha) (at_opp p t) ?_
    walk_at "gos"
    have hm : CMulW (co p t) (go p t) := by
      have := big_tri.mp (by rw [← tri_of p t]; exact hb : big (tri p (co p t) (go p t) (opp p t)) ≤ HUGE)
      exact mul_ok (Int.le_refl _) this.1 this.2.1
    refine go_cut (fun σ' H' => H' = H ∧ σ' = [some (.ref a), some (.int p.i), some (.int (prv p).i), some (.int (nxt p).i), some (.int (co p t)), some (.int (go p t)), some (.int (push (co p t) (go p t) (opp p t))), none]) ?_ ?_
    · walk_at "gos"
      refine go_ite (fun h1 => ?_) (fun h1 => ?_)
      · walk_at "gos"
        refine go_ite (fun h2 => ?_) (fun h2 => ?_)
        · walk_at "gos"
          refine ⟨rfl, ?_⟩
          rw [push_pos h1 h2]
          rfl
        · walk_at "gos"
          refine go_ite (fun h3 => absurd h1 (by omega)) (fun h3 => ?_)
          walk_at "gos"
          refine ⟨rfl, ?_⟩
          unfold push
          (rw [if_neg (by omega), if_neg (by omega)])
          rfl
      · walk_at "gos"
        refine go_ite (fun h3 => ?_) (fun h3 => ?_)
        · walk_at "gos"
          refine go_ite (fun h4 => ?_) (fun h4 => ?_)
          · walk_at "gos"
            refine ⟨rfl, ?_⟩
            rw [push_neg h3 h4]
            rfl
          · walk_at "gos"
            refine ⟨rfl, ?_⟩
            unfold push
            (rw [if_neg (by omega), if_neg (by omega)])
            rfl
        · walk_at "gos"
          refine ⟨rfl, ?_⟩
          unfold push
          (rw [if_neg (by omega), if_neg (by omega)])
          rfl
    · rintro σ' H' ⟨rfl, rfl⟩
      walk_at "gos"
      intro b nb
      walk_at "gos"
      refine go_rSetL upd_same (at_set1 p) ?_
      rw [upd_upd]
      walk_at "gos"
      refine go_rSetL upd_same (at_set2 p) ?_
      rw [upd_upd]
      walk_at "gos"
      refine ⟨_, _, rfl, .inl ⟨SqL.of upd_same, fun l nl => q l _ (none_back nl).1 (ext_new (Evl.Ex.new nb) nl) ?_⟩⟩
      rw [upd_same, at_set3]
theorem ok_turned_at (T : Top w K mg) : OkD P w K mg base 2 (He.ga K "turned_at") ["numbers", "place"] (sp_turned_at K) := by
  obtain ⟨fd, F⟩ := T.f_turned_at
  exact ⟨fd, fn_turned_at T F, F.binds (ps := ["numbers", "place"]) fun _ _ _ _ _ _ us hl => match us, hl with | [_, _], _ => rfl, F.kp⟩
end
end At

namespace At
open L2 PyProof.Rows PySem.Spec PySem
section
variable {base : Heap} {w : World} {K : PySem.W.Frag} {mg : Str → Option Value} {P : Program}
abbrev N_sizes_of : List Str := ["numbers", "number"]
theorem sc_sizes_of : FnScope N_sizes_of ["numbers"] (defScope s_sizes_of) := ⟨rfl, rfl, rfl, by decide +kernel, rfl, by decide +kernel, by decide +kernel⟩
def sp_sizes_of (K : PySem.W.Frag) : Sp := fun vs H Q _ => ∃ a t, vs = [.ref a] ∧ H a = some (.tup (tv t)) ∧ ((∀ p H', H p = none → Ext H H' → H' p = some (.tup (tv (szs t))) → Q (.ref p) H') ∨ ∀ p H', H p = none → Ext H H' → Frt H' p (tv (szs t)) → Q (.ref p) H')
theorem fn_sizes_of (T : Top w K mg) {fd : FuncData} (F : Fun K "sizes_of" "sizes_of" s_sizes_of (He.ga K "sizes_of") fd) : FnOk P w K mg base CX0 1 (He.ga K "sizes_of") fd ["numbers"] (sp_sizes_of K) := by
  refine F.ok sc_sizes_of (fun vs H Q E h => ?hlen) (fun cdv A outer s H vs Q E hr h => ⟨_, (pss_one (ps_ret (pe_callTy call_tupF (by rfl) T.b_tuple (by decide +kernel) (pa_cons (pe_lc (own := [("number", 1)]) (g := gName 1) (tt := tYes) (by rfl) sc_sizes_of.nd (pi_tup (pv 0)) (blkOk_by (own := [("number", 1)]) (N := N_sizes_of) (sc := defScope s_sizes_of) (by decide +kernel)) (fun _ _ _ _ _ => pg_name (i := 1) sc_sizes_of.nd rfl (Or.inl rfl)) (fun _ _ _ _ _ => pts_nil) (fun _ _ _ _ _ => (pe_callB call_abs (by rfl) T.b_abs (by decide +kernel) (pa_cons (pv 1) pa_nil)))) pa_nil)))), ?hrd⟩)
  case hlen =>
    obtain ⟨a, t, rfl, _⟩ := h
    rfl
  case hrd =>
    obtain ⟨a, t, rfl, ha, q⟩ := h
    walk_at "gos"
    refine go_lc ?_
    walk_at "gos"
    refine ⟨⟨tv t, SqT.of ha⟩, lc_tupP ha (Nat.le_of_ble_eq_true rfl) (fun x => match x with
      | .int i => .int (nat i)
      | v => v) (fun D nD x H' hx e QE hq => ?_) fun D nD H' e hD => ?_⟩
    · obtain ⟨i, rfl⟩ : ∃ i, x = .int i := by
        simp only [tv, List.mem_cons, List.not_mem_nil, or_false] at hx
        rcases hx with rfl | rfl | rfl <;> exact ⟨_, rfl⟩
      walk_at "gos"
      refine ⟨rfl, ?_⟩
      walk_at "gos"
      exact hq H' (Evl.Ex.refl _)
    · walk_at "gos"
      refine ⟨_, _, rfl, SqL.of hD, ?_⟩
      rcases q with q | q
      · exact .inl fun l nl => q l _ (Evl.fresh_back e nl) (ext_new e nl) upd_same
      · exact .inr fun l o nl no => q l _ (Evl.fresh_back e nl) (ext_new e nl) ⟨o, upd_same, no⟩
theorem ok_sizes_of (T : Top w K mg) : OkD P w K mg base 1 (He.ga K "sizes_of") ["numbers"] (sp_sizes_of K) := by
  obtain ⟨fd, F⟩ := T.f_sizes_of
  exact ⟨fd, fn_sizes_of T F, F.binds (ps := ["numbers"]) fun _ _ _ _ _ _ us hl => match us, hl with | [_], _ => rfl, F.kp⟩
end
end At

namespace At
open L2 PyProof.Rows PySem.Spec PySem
section
variable {base : Heap} {w : World} {K : PySem.W.Frag} {mg : Str → Option Value} {P : Program}
abbrev N_opposite_greatest : List Str := ["numbers", "sizes"]
theorem sc_opposite_greatest : FnScope N_opposite_greatest ["numbers"] (defScope s_opposite_greatest) := ⟨rfl, rfl, rfl, by decide +kernel, rfl, by decide +kernel, by decide +kernel⟩
def sp_opposite_greatest (K : PySem.W.Frag) : Sp := fun vs H Q _ => ∃ a t, vs = [.ref a] ∧ H a = some (.tup (tv t)) ∧ ∀ (p : P3) H', Ext H H' → (∀ q, nat (opp q t) ≤ nat (opp p t)) → Q (.int p.i) H'
theorem most_at (x y z : Int) : ∃ r : P3, (([x, y, z].idxOf (max (max x y) z) : Nat) : Int) = r.i ∧ opp (prv r) (x, y, z) = max (max x y) z := by
  rw [List.idxOf_cons, List.idxOf_cons, List.idxOf_cons]
  by_cases h1 : x = max (max x y) z
  · exact ⟨.a, by rw [beq_iff_eq.mpr h1]; rfl, h1⟩
  · by_cases h2 : y = max (max x y) z
    · exact ⟨.b, by rw [beq_eq_false_iff_ne.mpr h1, beq_iff_eq.mpr h2]; rfl, h2⟩
    · have h3 : z = max (max x y) z := by omega
      exact ⟨.c, by rw [beq_eq_false_iff_ne.mpr h1, beq_eq_false_iff_ne.mpr h2, beq_iff_eq.mpr h3]; rfl, h3⟩
theorem fn_opposite_greatest (T : Top w K mg) {fd : FuncData} (F : Fun K "opposite_greatest" "opposite_greatest" s_opposite_greatest (He.ga K "opposite_greatest") fd) : FnOk P w K mg base CX0 2 (He.ga K "opposite_greatest") fd ["numbers"] (sp_opposite_greatest K) := by
  obtain ⟨fd_sizes_of, G_sizes_of, b_sizes_of, k_sizes_of⟩ := ok_sizes_of (P := P) (w := w) (base := base) T
  obtain ⟨fd_place_before, G_place_before, b_place_before, k_place_before⟩ := ok_place_before (P := P) (w := w) (base := base) T
  refine F.ok sc_opposite_greatest (fun vs H Q E h => ?hlen) (fun cdv A outer s H vs Q E hr h => ⟨_, (pss_cons (ps_set (i := 1) sc_opposite_greatest.nd rfl (Or.inl rfl) (pe_call G_sizes_of (hr.mono (by decide)) (by rfl) T.g_sizes_of k_sizes_of b_sizes_of .nil pass0 (pa_cons (pv 0) pa_nil)))
    (pss_one (ps_ret (pe_call G_place_before (hr.mono (by decide)) (by rfl) T.g_place_before k_place_before b_place_before .nil pass0 (pa_cons (pe_tidx (pv 1) (pe_callB (cr_mostF rfl hr) (by rfl) T.b_max (by decide +kernel) (pa_cons (pv 1) pa_nil))) pa_nil))))), ?hrd⟩)
  case hlen =>
    obtain ⟨a, t, rfl, _⟩ := h
    rfl
  case hrd =>
    obtain ⟨a, ⟨x, y, z⟩, rfl, ha, q⟩ := h
    walk_at "gos"
    refine ⟨a, _, rfl, ha, .inr fun p H' np e h => ?_⟩
    have h' : Frt H' p (.int (nat x) :: [nat y, nat z].map .int) := h
    have h3 : Frt H' p ([nat x, nat y, nat z].map .int) := h
    walk_at "gos"
    refine ⟨p, _, rfl, h3, ?_⟩
    walk_at "gos"
    refine ⟨p, _, _, rfl, h', ?_⟩
    have e1 : [nat y, nat z].foldl max (nat x) = max (max (nat x) (nat y)) (nat z) := rfl
    rw [e1]
    obtain ⟨r, er, eo⟩ := most_at (nat x) (nat y) (nat z)
    refine ⟨_, rfl, ?_, h3, ?_⟩
    · simp only [List.mem_cons, List.not_mem_nil, or_false]
      omega
    walk_at "gos"
    refine ⟨r, by rw [er], ?_⟩
    walk_at "gos"
    refine q (prv r) H' e fun s => ?_
    have eo' : nat (opp (prv r) (x, y, z)) = max (max (nat x) (nat y)) (nat z) := by
      rw [← eo]
      cases r <;> rfl
    rw [eo']
    cases s
    · show nat y ≤ _; omega
    · show nat z ≤ _; omega
    · show nat x ≤ _; omega
theorem ok_opposite_greatest (T : Top w K mg) : OkD P w K mg base 2 (He.ga K "opposite_greatest") ["numbers"] (sp_opposite_greatest K) := by
  obtain ⟨fd, F⟩ := T.f_opposite_greatest
  exact ⟨fd, fn_opposite_greatest T F, F.binds (ps := ["numbers"]) fun _ _ _ _ _ _ us hl => match us, hl with | [_], _ => rfl, F.kp⟩
end
end At

namespace At
open L2 PyProof.Rows PySem.Spec PySem
section
variable {base : Heap} {w : World} {K : PySem.W.Frag} {mg : Str → Option Value} {P : Program}
abbrev N_goes_round : List Str := ["numbers"]
theorem sc_goes_round : FnScope N_goes_round ["numbers"] (defScope s_goes_round) := ⟨rfl, rfl, rfl, by decide +kernel, rfl, by decide +kernel, by decide +kernel⟩
def sp_goes_round (K : PySem.W.Frag) : Sp := fun vs H Q _ => ∃ a t, vs = [.ref a] ∧ H a = some (.tup (tv t)) ∧ ∀ b, (b = true ↔ ring t) → Q (.bl b) H
theorem fn_goes_round (T : Top w K mg) {fd : FuncData} (F : Fun K "goes_round" "goes_round" s_goes_round (He.ga K "goes_round") fd) : FnOk P w K mg base CX0 1 (He.ga K "goes_round") fd ["numbers"] (sp_goes_round K) := by
  refine F.ok sc_goes_round (fun vs H Q E h => ?hlen) (fun cdv A outer s H vs Q E hr h => ⟨_, (pss_one (ps_ret (pe_or (pe_cmpR op_gt (pe_callB (cr_leastT rfl hr) (by rfl) T.b_min (by decide +kernel) (pa_cons (pv 0) pa_nil)) pe_int (nomark _)) (pe_one (pe_cmpR op_lt (pe_callB (cr_mostT rfl hr) (by rfl) T.b_max (by decide +kernel) (pa_cons (pv 0) pa_nil)) pe_int (nomark _)))))), ?hrd⟩)
  case hlen =>
    obtain ⟨a, t, rfl, _⟩ := h
    rfl
  case hrd =>
    obtain ⟨a, ⟨x, y, z⟩, rfl, ha, q⟩ := h
    walk_at "gos"
    refine go_leastT (n := x) (ns := [y, z]) (SqT.of ha) ?_
    have e1 : [y, z].foldl min x = min (min x y) z := rfl
    have e2 : [y, z].foldl max x = max (max x y) z := rfl
    rw [e1]
    walk_at "gos"
    refine go_ite (fun h0 => ?_) (fun h0 => ?_)
    · exact q true ⟨fun _ => .inl ⟨by omega, by omega, by omega⟩, fun _ => rfl⟩
    · walk_at "gos"
      refine go_leastT (n := x) (ns := [y, z]) (SqT.of ha) ?_
      rw [e2]
      walk_at "gos"
      refine q _ ⟨fun hd => ?_, fun hr => decide_eq_true ?_⟩
      · have hd := of_decide_eq_true hd
        exact .inr ⟨by omega, by omega, by omega⟩
      · rcases hr with ⟨h1, h2, h3⟩ | ⟨h1, h2, h3⟩ <;> omega
theorem ok_goes_round (T : Top w K mg) : OkD P w K mg base 1 (He.ga K "goes_round") ["numbers"] (sp_goes_round K) := by
  obtain ⟨fd, F⟩ := T.f_goes_round
  exact ⟨fd, fn_goes_round T F, F.binds (ps := ["numbers"]) fun _ _ _ _ _ _ us hl => match us, hl with | [_], _ => rfl, F.kp⟩
end
end At

namespace At
open L2 PyProof.Rows PySem.Spec PySem
section
variable {base : Heap} {w : World} {K : PySem.W.Frag} {mg : Str → Option Value} {P : Program}
abbrev N_place_down : List Str := ["numbers", "place", "greatest"]
theorem sc_place_down : FnScope N_place_down ["numbers"] (defScope s_place_down) := ⟨rfl, rfl, rfl, by decide +kernel, rfl, by decide +kernel, by decide +kernel⟩
def sp_place_down (K : PySem.W.Frag) : Sp := fun vs H Q _ => ∃ a t, vs = [.ref a] ∧ H a = some (.tup (tv t)) ∧ big t ≤ HUGE ∧ ∀ r H', Ext H H' → ((r = .non ∧ ∀ p, ¬ Down p t) ∨ ∃ p : P3, r = .int p.i ∧ Down p t ∧ ∀ q, Down q t → q = p) → Q r H'
theorem fn_place_down (T : Top w K mg) {fd : FuncData} (F : Fun K "place_down" "place_down" s_place_down (He.ga K "place_down") fd) : FnOk P w K mg base CX0 3 (He.ga K "place_down") fd ["numbers"] (sp_place_down K) := by
  obtain ⟨fd_sizes_of, G_sizes_of, b_sizes_of, k_sizes_of⟩ := ok_sizes_of (P := P) (w := w) (base := base) T
  obtain ⟨fd_goes_round, G_goes_round, b_goes_round, k_goes_round⟩ := ok_goes_round (P := P) (w := w) (base := base) T
  obtain ⟨fd_opposite_greatest, G_opposite_greatest, b_opposite_greatest, k_opposite_greatest⟩ := ok_opposite_greatest (P := P) (w := w) (base := base) T
  obtain ⟨fd_place_behind, G_place_behind, b_place_behind, k_place_behind⟩ := ok_place_behind (P := P) (w := w) (base := base) T
  obtain ⟨fd_place_before, G_place_before, b_place_before, k_place_before⟩ := ok_place_before (P := P) (w := w) (base := base) T
  refine F.ok sc_place_down (fun vs H Q E h => ?hlen) (fun cdv A outer s H vs Q E hr h => ⟨_, (pss_cons (ps_if (PW.pt (pw_or (pt_not (pt_val (pe_call G_goes_round (hr.mono (by decide)) (by rfl) T.g_goes_round k_goes_round b_goes_round .nil pass0 (pa_cons (pv 0) pa_nil)))) (pw_or1 (pt_cmpR op_lt (pe_callB (cr_leastT rfl hr) (by rfl) T.b_min (by decide +kernel) (pa_cons (pe_call G_sizes_of (hr.mono (by decide)) (by rfl) T.g_sizes_of k_sizes_of b_sizes_of .nil pass0 (pa_cons (pv 0) pa_nil)) pa_nil)) pe_int (nomark _))))) (pss_one (ps_ret pe_non)) pss_nil)
    (pss_cons (ps_set (i := 1) sc_place_down.nd rfl (Or.inl rfl) (pe_call G_opposite_greatest (hr.mono (by decide)) (by rfl) T.g_opposite_greatest k_opposite_greatest b_opposite_greatest .nil pass0 (pa_cons (pv 0) pa_nil)))
    (pss_cons (ps_set (i := 2) sc_place_down.nd rfl (Or.inl rfl) (pe_callB call_abs (by rfl) T.b_abs (by decide +kernel) (pa_cons (pe_ix ix_tup (pv 0) (pe_call G_place_behind (hr.mono (by decide)) (by rfl) T.g_place_behind k_place_behind b_place_behind .nil pass0 (pa_cons (pv 1) pa_nil)) (fun _ _ => rfl)) pa_nil)))
    (pss_cons (ps_if (pt_cmpR op_le (pe_op op_mul pe_int (pv 2)) (pe_op op_mulW (pe_ix ix_tup (pv 0) (pv 1) (fun _ _ => rfl)) (pe_ix ix_tup (pv 0) (pe_call G_place_before (hr.mono (by decide)) (by rfl) T.g_place_before k_place_before b_place_before .nil pass0 (pa_cons (pv 1) pa_nil)) (fun _ _ => rfl))) (nomark _)) (pss_one (ps_ret pe_non)) pss_nil)
    (pss_one (ps_ret (pv 1))))))), ?hrd⟩)
  case hlen =>
    obtain ⟨a, t, rfl, _⟩ := h
    rfl
  case hrd =>
    obtain ⟨a, t, rfl, ha, hb, q⟩ := h
    walk_at "gos"
    refine ⟨a, t, rfl, ha, fun r hr => ?_⟩
    walk_at "gos"
    cases r with
    | false =>
      walk_at "gos"
      exact q _ H (Evl.Ex.refl _) (.inl ⟨rfl, fun p d => by have := hr.mpr d.1; cases this⟩)
    | true =>
      have hring := hr.mp rfl
      walk_at "gos"
      refine ⟨a, t, rfl, ha, .inl fun p1 H1 np1 e1 h1 => ?_⟩
      walk_at "gos"
      obtain ⟨x, y, z⟩ := t
      refine go_leastT (n := nat x) (ns := [nat y, nat z]) (SqT.of h1) ?_
      have e2 : [nat y, nat z].foldl min (nat x) = min (min (nat x) (nat y)) (nat z) := rfl
      rw [e2]
      walk_at "gos"
      refine go_ite (fun c1 => ?_) (fun c1 => ?_)
      · walk_at "gos"
        exact q _ H1 e1 (.inl ⟨rfl, fun p d => absurd c1 (by
          have := d.least
          omega)⟩)
      · walk_at "gos"
        refine ⟨a, _, rfl, e1 _ _ ha, fun p H2 e3 hp => ?_⟩
        walk_at "gos"
        refine ⟨p, rfl, ?_⟩
        have ha2 := e3 _ _ (e1 _ _ ha)
        walk_at "gos"
        refine go_rIxT (SqT.of ha2) (at_opp p _) ?_
        walk_at "gos"
        refine go_rIxT (SqT.of ha2) (at_go p _) ?_
        walk_at "gos"
        refine ⟨p, rfl, ?_⟩
        walk_at "gos"
        refine go_rIxT (SqT.of ha2) (at_co p _) ?_
        walk_at "gos"
        obtain ⟨b1, b2, b3⟩ := big_at (p := p) hb
        refine go_rI (mul_ok (B := HUGE) (Int.le_refl _) b2 b1) ?_
        walk_at "gos"
        have least : ∀ s : P3, 2 ≤ nat (opp s (x, y, z)) := fun s => by
          cases s
          · show 2 ≤ nat y; omega
          · show 2 ≤ nat z; omega
          · show 2 ≤ nat x; omega
        have prod := ring_prod p hring
        refine go_ite (fun c2 => ?_) (fun c2 => ?_)
        · walk_at "gos"
          exact q _ H2 (e1.trans e3) (.inl ⟨rfl, fun s d => top_down hp c2 prod d⟩)
        · walk_at "gos"
          exact q _ H2 (e1.trans e3) (.inr ⟨p, rfl, down_of hring least c2 prod, fun s d => top_only hp d⟩)
theorem ok_place_down (T : Top w K mg) : OkD P w K mg base 3 (He.ga K "place_down") ["numbers"] (sp_place_down K) := by
  obtain ⟨fd, F⟩ := T.f_place_down
  exact ⟨fd, fn_place_down T F, F.binds (ps := ["numbers"]) fun _ _ _ _ _ _ us hl => match us, hl with | [_], _ => rfl, F.kp⟩
end
end At

namespace At
open L2 PyProof.Rows PySem.Spec PySem
section
variable {base : Heap} {w : World} {K : PySem.W.Frag} {mg : Str → Option Value} {P : Program}
abbrev N_is_beyond : List Str := ["numbers", "place"]
theorem sc_is_beyond : FnScope N_is_beyond ["numbers", "place"] (defScope s_is_beyond) := ⟨rfl, rfl, rfl, by decide +kernel, rfl, by decide +kernel, by decide +kernel⟩
def sp_is_beyond (K : PySem.W.Frag) : Sp := fun vs H Q _ => ∃ a t p, vs = [.ref a, .int (P3.i p)] ∧ H a = some (.tup (tv t)) ∧ big t ≤ HUGE ∧ ∀ b H', Ext H H' → (b = true ↔ Beyond GR p t) → Q (.bl b) H'
theorem fn_is_beyond (T : Top w K mg) {fd : FuncData} (F : Fun K "is_beyond" "is_beyond" s_is_beyond (He.ga K "is_beyond") fd) : FnOk P w K mg base CX0 4 (He.ga K "is_beyond") fd ["numbers", "place"] (sp_is_beyond K) := by
  obtain ⟨fd_place_down, G_place_down, b_place_down, k_place_down⟩ := ok_place_down (P := P) (w := w) (base := base) T
  obtain ⟨fd_place_behind, G_place_behind, b_place_behind, k_place_behind⟩ := ok_place_behind (P := P) (w := w) (base := base) T
  obtain ⟨u_GREATEST, e_GREATEST, r_GREATEST⟩ := T.n_GREATEST
  refine F.ok sc_is_beyond (fun vs H Q E h => ?hlen) (fun cdv A outer s H vs Q E hr h => ⟨_, (pss_one (ps_ret (pe_and (pe_cmpR op_gt (pe_callB call_abs (by rfl) T.b_abs (by decide +kernel) (pa_cons (pe_ix ix_tup (pv 0) (pe_call G_place_behind (hr.mono (by decide)) (by rfl) T.g_place_behind k_place_behind b_place_behind .nil pass0 (pa_cons (pv 1) pa_nil)) (fun _ _ => rfl)) pa_nil)) (pe_glob rfl e_GREATEST r_GREATEST) (nomark _)) (pe_one (pe_cmpR op_eq (pe_call G_place_down (hr.mono (by decide)) (by rfl) T.g_place_down k_place_down b_place_down .nil pass0 (pa_cons (pv 0) pa_nil)) (pv 1) (nomark _)))))), ?hrd⟩)
  case hlen =>
    obtain ⟨a, t, p, rfl, _⟩ := h
    rfl
  case hrd =>
    obtain ⟨a, t, p, rfl, ha, hb, q⟩ := h
    walk_at "gos"
    refine ⟨p, rfl, ?_⟩
    walk_at "gos"
    refine go_rIxT (SqT.of ha) (at_opp p t) ?_
    walk_at "gos"
    refine go_ite (fun h1 => ?_) (fun h1 => ?_)
    · walk_at "gos"
      refine ⟨a, t, rfl, ha, hb, fun r H' e hr => ?_⟩
      walk_at "gos"
      have told : ∀ b : Bool, (b = true ↔ r = .int p.i) → Q (.bl b) H' := fun b hbr => q b H' e (hbr.trans (by
        rw [beyond_down]
        constructor
        · intro er
          rcases hr with ⟨en, _⟩ | ⟨s, es, d, _⟩
          · rw [en] at er; cases er
          · rw [es] at er
            have : s = p := p3_inj (V.int.inj er)
            exact ⟨h1, this ▸ d⟩
        · rintro ⟨_, d⟩
          rcases hr with ⟨_, nd⟩ | ⟨s, es, _, only⟩
          · exact absurd d (nd p)
          · rw [es, only p d]))
      rcases hr with ⟨rfl, nd⟩ | ⟨s, rfl, d, only⟩
      · exact ⟨rfl, told _ ⟨(fun z => nomatch z), (fun z => nomatch z)⟩⟩
      · refine go_rEqI ?_
        exact told _ ⟨fun z => by rw [of_decide_eq_true z], fun z => decide_eq_true (V.int.inj z)⟩
    · walk_at "gos"
      exact q false H (Evl.Ex.refl _) ⟨fun z => Bool.noConfusion z, fun z => absurd z.1 h1⟩
theorem ok_is_beyond (T : Top w K mg) : OkD P w K mg base 4 (He.ga K "is_beyond") ["numbers", "place"] (sp_is_beyond K) := by
  obtain ⟨fd, F⟩ := T.f_is_beyond
  exact ⟨fd, fn_is_beyond T F, F.binds (ps := ["numbers", "place"]) fun _ _ _ _ _ _ us hl => match us, hl with | [_, _], _ => rfl, F.kp⟩
end
end At

namespace At
open L2 PyProof.Rows PySem.Spec PySem
section
variable {base : Heap} {w : World} {K : PySem.W.Frag} {mg : Str → Option Value} {P : Program}
abbrev N_behind_way : List Str := ["numbers", "places", "place"]
theorem sc_behind_way : FnScope N_behind_way ["numbers", "places"] (defScope s_behind_way) := ⟨rfl, rfl, rfl, by decide +kernel, rfl, by decide +kernel, by decide +kernel⟩
def sp_behind_way (K : PySem.W.Frag) : Sp := fun vs H Q _ => ∃ a l t ps B, vs = [.ref a, .ref l] ∧ H a = some (.tup (tv t)) ∧ H l = some (.lst (pl ps)) ∧ ps.length ≤ 1000 ∧ GR ≤ B ∧ 4 * mk t ≤ 3 * (B * B) ∧ big t ≤ B ∧ B ≤ HALF ∧
  (∀ p H', Ext H H' → H' p = some (.tup (tv (walk t ps))) → big (walk t ps) ≤ B → Q (.ref p) H') ∧ (∀ H', Ext H H' → (∃ pre p post, ps = pre ++ p :: post ∧ Beyond GR p (walk t (pre ++ [p]))) → Q .non H')
theorem fn_behind_way (T : Top w K mg) {fd : FuncData} (F : Fun K "behind_way" "behind_way" s_behind_way (He.ga K "behind_way") fd) : FnOk P w K mg base CX0 5 (He.ga K "behind_way") fd ["numbers", "places"] (sp_behind_way K) := by
  obtain ⟨fd_turned_at, G_turned_at, b_turned_at, k_turned_at⟩ := ok_turned_at (P := P) (w := w) (base := base) T
  obtain ⟨fd_is_beyond, G_is_beyond, b_is_beyond, k_is_beyond⟩ := ok_is_beyond (P := P) (w := w) (base := base) T
  refine F.ok sc_behind_way (fun vs H Q E h => ?hlen) (fun cdv A outer s H vs Q E hr h => ⟨_, (pss_cons (ps_for PassesOwn.never rfl (pi_list (pv 1)) (pg_name (i := 2) sc_behind_way.nd rfl (Or.inl rfl)) (pss_cons (ps_set (i := 0) sc_behind_way.nd rfl (Or.inl rfl) (pe_call G_turned_at (hr.mono (by decide)) (by rfl) T.g_turned_at k_turned_at b_turned_at .nil pass0 (pa_cons (pv 0) (pa_cons (pv 2) pa_nil))))
    (pss_one (ps_if (pt_val (pe_call G_is_beyond (hr.mono (by decide)) (by rfl) T.g_is_beyond k_is_beyond b_is_beyond .nil pass0 (pa_cons (pv 0) (pa_cons (pv 2) pa_nil)))) (pss_one (ps_ret pe_non)) pss_nil))))
    (pss_one (ps_ret (pv 0)))), ?hrd⟩)
  case hlen =>
    obtain ⟨a, l, t, ps, B, rfl, _⟩ := h
    rfl
  case hrd =>
    obtain ⟨a, l, t, ps, B, rfl, ha, hl, hlen, hG, hm, hb, hB, q1, q2⟩ := h
    walk_at "gos"
    refine ⟨⟨_, SqL.of hl⟩, ?_⟩
    refine loop_list (fun i σ' H' => ∃ p y, σ' = [some (.ref p), some (.ref l), y] ∧ Ext H H' ∧ H' p = some (.tup (tv (walk t (ps.take i)))) ∧ big (walk t (ps.take i)) ≤ B)
      ⟨a, none, rfl, Evl.Ex.refl _, ha, hb⟩ (fun i σ' H' _ ⟨p, y, _, e, _⟩ => SqL.of (e l _ hl)) ?_ ?_
    · rintro i x σ' H' hx ⟨p, y, rfl, e, hp, hbp⟩
      obtain ⟨c, hc, rfl⟩ : ∃ c : P3, ps[i]? = some c ∧ x = .int c.i := by
        rw [pl, List.getElem?_map] at hx
        cases z : ps[i]? with
        | none => rw [z] at hx; cases hx
        | some c => rw [z] at hx; exact ⟨c, rfl, (Option.some.inj hx).symm⟩
      have hstep : walk t (ps.take (i + 1)) = turn c (walk t (ps.take i)) := by
        rw [List.take_add_one, hc, walk_append]
        rfl
      walk_at "gos"
      refine ⟨p, _, c, rfl, hp, Int.le_trans hbp (Int.le_trans hB half_huge), fun p' H2 np e2 h2 => ?_⟩
      walk_at "gos"
      have hB0 : 0 ≤ B := Int.le_trans (Int.le_trans (nat_nonneg _) (big_at (p := P3.a) hb).1) (Int.le_refl _)
      refine ⟨p', _, c, rfl, h2, Int.le_trans (turn_big hbp) (half_ok hB0 hB), fun b H3 e3 hbey => ?_⟩
      walk_at "gos"
      cases b with
      | true =>
        walk_at "gos"
        refine q2 H3 ((e.trans e2).trans e3) ⟨ps.take i, c, ps.drop (i + 1), ?_, ?_⟩
        · have h3 := (List.getElem?_eq_some_iff.mp hc)
          obtain ⟨h4, h5⟩ := h3
          rw [← h5, ← List.drop_eq_getElem_cons h4, List.take_append_drop]
        · rw [walk_append]
          exact hbey.mp rfl
      | false =>
        walk_at "gos"
        have nb : ¬ Beyond GR c (turn c (walk t (ps.take i))) := fun z => by
          have := hbey.mpr z
          cases this
        refine ⟨(e.trans e2).trans e3, ?_, ?_⟩
        · rw [hstep]
          exact e3 _ _ h2
        · rw [hstep]
          exact bound_turn hG hB0 (by rw [mk_walk]; exact hm) hbp nb
    · rintro σ' H' ⟨p, y, rfl, e, hp, hbp⟩
      walk_at "gos"
      have el : (pl ps).length = ps.length := List.length_map ..
      rw [el, List.take_length] at hp hbp
      exact q1 p H' e hp hbp
theorem ok_behind_way (T : Top w K mg) : OkD P w K mg base 5 (He.ga K "behind_way") ["numbers", "places"] (sp_behind_way K) := by
  obtain ⟨fd, F⟩ := T.f_behind_way
  exact ⟨fd, fn_behind_way T F, F.binds (ps := ["numbers", "places"]) fun _ _ _ _ _ _ us hl => match us, hl with | [_, _], _ => rfl, F.kp⟩
theorem way_sp {K : PySem.W.Frag} {a l : Addr} {t : T3} {ps : List P3} {B : Int} {H : Hp} {Q : VK} {E : XK} (ha : H a = some (.tup (tv t))) (hl : H l = some (.lst (pl ps))) (hlen : ps.length ≤ 1000) (hG : GR ≤ B) (hm : 4 * mk t ≤ 3 * (B * B)) (hb : big t ≤ B) (hB : B ≤ HALF)
    (k : ∀ v H', Ext H H' → ((v = .non ∧ ∃ pre p post, ps = pre ++ p :: post ∧ Beyond GR p (walk t (pre ++ [p]))) ∨ ∃ p, v = .ref p ∧ H' p = some (.tup (tv (walk t ps))) ∧ big (walk t ps) ≤ B) → Q v H') : sp_behind_way K [.ref a, .ref l] H Q E :=
  ⟨a, l, t, ps, B, rfl, ha, hl, hlen, hG, hm, hb, hB, fun p H' e h b => k _ H' e (.inr ⟨p, rfl, h, b⟩), fun H' e h => k _ H' e (.inl ⟨rfl, h⟩)⟩
end
end At

namespace At
open L2 PyProof.Rows PySem.Spec PySem
section
variable {base : Heap} {w : World} {K : PySem.W.Frag} {mg : Str → Option Value} {P : Program}
abbrev N_without_doubles : List Str := ["places", "kept", "place"]
theorem sc_without_doubles : FnScope N_without_doubles ["places"] (defScope s_without_doubles) := ⟨rfl, rfl, rfl, by decide +kernel, rfl, by decide +kernel, by decide +kernel⟩
def sp_without_doubles (K : PySem.W.Frag) : Sp := fun vs H Q _ => ∃ a ps, vs = [.ref a] ∧ H a = some (.lst (pl ps)) ∧ ps.length ≤ 1000 ∧ ∀ p H', H p = none → Ext H H' → H' p = some (.lst (pl (keeps ps))) → Q (.ref p) H'
theorem fn_without_doubles (T : Top w K mg) {fd : FuncData} (F : Fun K "without_doubles" "without_doubles" s_without_doubles (He.ga K "without_doubles") fd) : FnOk P w K mg base CX0 1 (He.ga K "without_doubles") fd ["places"] (sp_without_doubles K) := by
  refine F.ok sc_without_doubles (fun vs H Q E h => ?hlen) (fun cdv A outer s H vs Q E hr h => ⟨_, (pss_cons (ps_set (i := 1) sc_without_doubles.nd rfl (Or.inl rfl) (pe_lst pa_nil))
    (pss_cons (ps_for PassesOwn.never rfl (pi_list (pv 0)) (pg_name (i := 2) sc_without_doubles.nd rfl (Or.inl rfl)) (pss_one (ps_if (PW.pt (pw_and (pt_truth (pv 1) (by intro _; rfl)) (pw_and1 (pt_cmpR op_eq (pe_ix ix_list (pv 1) (pe_un un_neg pe_int) (fun _ _ => rfl)) (pv 2) (nomark _))))) (pss_one (ps_expr (pe_bm0 PySem.F.plainAttrs_list PySem.F.slot_list_pop PySem.F.type_list_pop mt_pop (pv 1)))) (pss_one (ps_expr (pe_bm PySem.F.plainAttrs_list PySem.F.slot_list_append PySem.F.type_list_append mt_append (pv 1) (pa_cons (pv 2) pa_nil)))))))
    (pss_one (ps_ret (pv 1))))), ?hrd⟩)
  case hlen =>
    obtain ⟨a, ps, rfl, _⟩ := h
    rfl
  case hrd =>
    obtain ⟨a, ps, rfl, ha, hlen, q⟩ := h
    walk_at "gos"
    intro k nk
    walk_at "gos"
    refine ⟨⟨_, SqL.of (mem_new nk ha)⟩, ?_⟩
    refine loop_list (fun i σ' H' => ∃ y, σ' = [some (.ref a), some (.ref k), y] ∧ Ext H H' ∧ H' k = some (.lst (pl ((ps.take i).foldl keep []))))
      ⟨none, rfl, Evl.Ex.new nk, upd_same⟩ (fun i σ' H' _ ⟨y, _, e, _⟩ => SqL.of (e a _ ha)) ?_ ?_
    · rintro i x σ' H' hx ⟨y, rfl, e, hk⟩
      obtain ⟨c, hc, rfl⟩ := pl_at hx
      have hstep : (ps.take (i + 1)).foldl keep [] = keep ((ps.take i).foldl keep []) c := by
        rw [List.take_add_one, hc, List.foldl_append]
        rfl
      have hkl := fold_len (ps.take i)
      rw [List.length_take] at hkl
      generalize hK : (ps.take i).foldl keep [] = kept at hk hstep hkl
      walk_at "gos"
      refine ⟨_, .inl ⟨_, SqL.of hk, rfl⟩, ?_⟩
      dsimp only
      have app : ¬ kept.getLast? = some c → ∃ y, [some (V.ref a), some (V.ref k), some (V.int c.i)] = [some (V.ref a), some (V.ref k), y] ∧ Ext H (upd H' k (.lst (pl kept ++ [.int c.i]))) ∧ upd H' k (.lst (pl kept ++ [.int c.i])) k = some (.lst (pl (List.foldl keep [] (List.take (i + 1) ps)))) := fun hne => by
        refine ⟨_, rfl, e.mut nk, ?_⟩
        rw [upd_same, hstep, keep, if_neg hne, pl, pl, List.map_append]
        rfl
      cases hkn : kept.getLast? with
      | none =>
        have : kept = [] := List.getLast?_eq_none_iff.mp hkn
        subst this
        refine go_iteNo rfl ?_
        walk_at "gos"
        refine go_app rfl hk ?_
        walk_at "gos"
        exact appk hk (Nat.zero_le _) (app (by rw [hkn]; exact fun z => nomatch z))
      | some d =>
        have hne : kept ≠ [] := fun z => by rw [z] at hkn; cases hkn
        have hd : kept = kept.dropLast ++ [d] := drop_last hkn
        have hpl : pl kept = pl kept.dropLast ++ [.int d.i] := by
          rw [pl, pl, show kept.map (fun p => V.int p.i) = (kept.dropLast ++ [d]).map (fun p => V.int p.i) by rw [← hd], List.map_append]
          rfl
        refine go_iteYes (by rw [hpl]; simp) ?_
        walk_at "gos"
        refine go_rIxL (SqL.of hk) (by rw [hpl]; exact atI_last _ _) ?_
        walk_at "gos"
        refine go_ite (fun hi => ?_) (fun hi => ?_)
        · have hdc : d = c := p3_inj hi
          walk_at "gos"
          refine go_pop rfl (by rw [hk, hpl]) ?_
          refine ⟨_, rfl, e.mut nk, ?_⟩
          rw [upd_same, hstep, keep, if_pos (by rw [hkn, hdc])]
        · walk_at "gos"
          refine go_app rfl hk ?_
          walk_at "gos"
          exact appk hk (show (pl kept).length ≤ 50000 by rw [pl, List.length_map]; omega) (app (by rw [hkn]; exact fun z => hi (by rw [Option.some.inj z])))
    · rintro σ' H' ⟨y, rfl, e, hk⟩
      walk_at "gos"
      have el : (pl ps).length = ps.length := List.length_map ..
      rw [el, List.take_length] at hk
      exact q k H' nk e hk
theorem ok_without_doubles (T : Top w K mg) : OkD P w K mg base 1 (He.ga K "without_doubles") ["places"] (sp_without_doubles K) := by
  obtain ⟨fd, F⟩ := T.f_without_doubles
  exact ⟨fd, fn_without_doubles T F, F.binds (ps := ["places"]) fun _ _ _ _ _ _ us hl => match us, hl with | [_], _ => rfl, F.kp⟩
end
end At

namespace At
open L2 PyProof.Rows PySem.Spec PySem
section
variable {base : Heap} {w : World} {K : PySem.W.Frag} {mg : Str → Option Value} {P : Program}
abbrev N_root_of : List Str := ["places", "size"]
theorem sc_root_of : FnScope N_root_of ["places"] (defScope s_root_of) := ⟨rfl, rfl, rfl, by decide +kernel, rfl, by decide +kernel, by decide +kernel⟩
def sp_root_of (K : PySem.W.Frag) : Sp := fun vs H Q _ => ∃ a ps, vs = [.ref a] ∧ H a = some (.lst (pl ps)) ∧ ps.length ≤ 1000 ∧ ps ≠ [] ∧ ∀ r k p H', ps = rep k r → 0 < k → r ≠ [] → Ext H H' → H' p = some (.lst (pl r)) → Q (.ref p) H'
theorem fn_root_of (T : Top w K mg) {fd : FuncData} (F : Fun K "root_of" "root_of" s_root_of (He.ga K "root_of") fd) : FnOk P w K mg base CX0 1 (He.ga K "root_of") fd ["places"] (sp_root_of K) := by
  refine F.ok sc_root_of (fun vs H Q E h => ?hlen) (fun cdv A outer s H vs Q E hr h => ⟨_, (pss_cons (ps_for PassesOwn.never rfl (pi_range2 (by rfl) T.b_range (pa_cons pe_int (pa_cons (pe_callB call_len_seq (by rfl) T.b_len PySem.boot_len (pa_cons (pv 0) pa_nil)) pa_nil))) (pg_name (i := 1) sc_root_of.nd rfl (Or.inl rfl)) (pss_one (ps_if (PW.pt (pw_and (pt_cmpR op_eq (pe_op op_modN (pe_callB call_len_seq (by rfl) T.b_len PySem.boot_len (pa_cons (pv 0) pa_nil)) (pv 1)) pe_int (nomark _)) (pw_and1 (pt_cmpR (op_eqD (hu64 hr)) (pe_op op_rep (pe_slice sl_list (pv 0) po_none (po_some (pv 1))) (pe_op op_fdivW (pe_callB call_len_seq (by rfl) T.b_len PySem.boot_len (pa_cons (pv 0) pa_nil)) (pv 1))) (pv 0) (nomark _))))) (pss_one (ps_ret (pe_slice sl_list (pv 0) po_none (po_some (pv 1))))) pss_nil)))
    (pss_one (ps_ret (pv 0)))), ?hrd⟩)
  case hlen =>
    obtain ⟨a, ps, rfl, _⟩ := h
    rfl
  case hrd =>
    obtain ⟨a, ps, rfl, ha, hlen, hne, q⟩ := h
    have el : (pl ps).length = ps.length := List.length_map ..
    walk_at "gos"
    refine ⟨_, _, rfl, .inl (SqL.of ha), ?_⟩
    walk_at "gos"
    refine ⟨⟨(by decide), (by decide), (by rw [el]; omega), (by rw [el]; omega)⟩, ?_⟩
    refine loop_range (fun i σ' H' => ∃ y, σ' = [some (.ref a), y] ∧ Ext H H') ⟨none, rfl, Evl.Ex.refl _⟩ ?_ ?_
    · rintro i σ' H' hi ⟨y, rfl, e⟩
      have ha' := e a _ ha
      have hsz : (1 : Int) + (i : Nat) = ((i + 1 : Nat) : Int) := by omega
      walk_at "gos"
      refine ⟨_, _, rfl, .inl (SqL.of ha'), ?_⟩
      walk_at "gos"
      refine go_ite (fun h1 => ?_) (fun h1 => ?_)
      · walk_at "gos"
        rw [hsz]
        refine ⟨a, _, rfl, SqL.of ha', fun s1 ns1 => ?_⟩
        have hs1 : i + 1 < ps.length := by rw [el] at hi; omega
        have e1 : cutV (pl ps) none (some ((i + 1 : Nat) : Int)) = pl (ps.take (i + 1)) := by
          rw [cut_to _ _ (by rw [el]; omega), pl, pl, List.map_take]
        rw [e1]
        walk_at "gos"
        refine ⟨_, _, rfl, .inl (SqL.of (mem_new ns1 ha')), ?_⟩
        walk_at "gos"
        rw [el]
        have h1' : (ps.length : Int).fmod ((i + 1 : Nat) : Int) = 0 := by rw [el, hsz] at h1; exact h1
        refine go_rI ⟨by omega, Nat.lt_of_le_of_lt (Nat.log2_le_self _) (by omega)⟩ ?_
        have hdiv : (ps.length : Int) / ((i + 1 : Nat) : Int) = ((ps.length / (i + 1) : Nat) : Int) := by rw [Int.natCast_ediv]
        rw [hdiv]
        have hle : ps.length / (i + 1) ≤ ps.length := Nat.div_le_self _ _
        have hpos : 0 < ps.length / (i + 1) := Nat.div_pos (by omega) (by omega)
        generalize ps.length / (i + 1) = n at hle hpos ⊢
        refine ⟨s1, _, _, rfl, rfl, upd_same, by omega, by omega, ?_, fun r1 nr1 => ?_⟩
        · have h5 : (pl (ps.take (i + 1))).length ≤ 1000 := by rw [pl, List.length_map, List.length_take]; omega
          have h6 : (((n : Nat) : Int)).toNat ≤ 1000 := by rw [Int.toNat_natCast]; omega
          have h7 := Nat.mul_le_mul h5 h6
          exact Nat.le_trans h7 (by decide)
        · walk_at "gos"
          have e2 : (List.replicate ((n : Nat) : Int).toNat (pl (ps.take (i + 1)))).flatten = pl (rep (n) (ps.take (i + 1))) := by
            rw [Int.toNat_natCast, pl_rep]
          rw [e2]
          refine go_eqP (SqL.of upd_same) (SqL.of (mem_new nr1 (mem_new ns1 ha'))) ?_
          walk_at "gos"
          refine go_ite (fun h2 => ?_) (fun h2 => ?_)
          · walk_at "gos"
            refine ⟨a, _, rfl, SqL.of (mem_new nr1 (mem_new ns1 ha')), fun p np => ?_⟩
            refine q (ps.take (i + 1)) (n) p _ h2.symm ?_ ?_ (e.trans (ext_new (ext_new (Evl.Ex.new ns1) nr1) np)) (by rw [upd_same, e1])
            · exact hpos
            · intro z
              have := congrArg List.length z
              rw [List.length_take, List.length_nil] at this
              omega
          · walk_at "gos"
            exact e.trans (ext_new (Evl.Ex.new ns1) nr1)
      · walk_at "gos"
        exact e
    · rintro σ' H' ⟨y, rfl, e⟩
      walk_at "gos"
      exact q ps 1 a H' (by rw [rep_succ, rep_zero, List.append_nil]) (by decide) hne e (e a _ ha)
theorem ok_root_of (T : Top w K mg) : OkD P w K mg base 1 (He.ga K "root_of") ["places"] (sp_root_of K) := by
  obtain ⟨fd, F⟩ := T.f_root_of
  exact ⟨fd, fn_root_of T F, F.binds (ps := ["places"]) fun _ _ _ _ _ _ us hl => match us, hl with | [_], _ => rfl, F.kp⟩
end
end At

namespace At
open L2 PyProof.Rows PySem.Spec PySem
section
variable {base : Heap} {w : World} {K : PySem.W.Frag} {mg : Str → Option Value} {P : Program}
abbrev N_arrows_in : List Str := ["numbers", "core", "first", "second", "third"]
theorem sc_arrows_in : FnScope N_arrows_in ["numbers", "core"] (defScope s_arrows_in) := ⟨rfl, rfl, rfl, by decide +kernel, rfl, by decide +kernel, by decide +kernel⟩
def sp_arrows_in (K : PySem.W.Frag) : Sp := fun vs H Q _ => ∃ a l t p q r, vs = [.ref a, .ref l] ∧ H a = some (.tup (tv t)) ∧ H l = some (.lst (pl [p, q])) ∧ p ≠ q ∧ q ≠ r ∧ p ≠ r ∧ Q (.int (nat (opp r t))) H
theorem fn_arrows_in (T : Top w K mg) {fd : FuncData} (F : Fun K "arrows_in" "arrows_in" s_arrows_in (He.ga K "arrows_in") fd) : FnOk P w K mg base CX0 2 (He.ga K "arrows_in") fd ["numbers", "core"] (sp_arrows_in K) := by
  obtain ⟨fd_place_behind, G_place_behind, b_place_behind, k_place_behind⟩ := ok_place_behind (P := P) (w := w) (base := base) T
  refine F.ok sc_arrows_in (fun vs H Q E h => ?hlen) (fun cdv A outer s H vs Q E hr h => ⟨_, (pss_cons (ps_asg (pv 1) (pg_unl rfl (pgs_cons (pg_name (i := 2) sc_arrows_in.nd rfl (Or.inl rfl)) (pgs_cons (pg_name (i := 3) sc_arrows_in.nd rfl (Or.inl rfl)) pgs_nil))))
    (pss_cons (ps_set (i := 4) sc_arrows_in.nd rfl (Or.inl rfl) (pe_op op_sub (pe_op op_sub pe_int (pv 2)) (pv 3)))
    (pss_one (ps_ret (pe_callB call_abs (by rfl) T.b_abs (by decide +kernel) (pa_cons (pe_ix ix_tup (pv 0) (pe_call G_place_behind (hr.mono (by decide)) (by rfl) T.g_place_behind k_place_behind b_place_behind .nil pass0 (pa_cons (pv 4) pa_nil)) (fun _ _ => rfl)) pa_nil)))))), ?hrd⟩)
  case hlen =>
    obtain ⟨a, l, t, p, q, r, rfl, _⟩ := h
    rfl
  case hrd =>
    obtain ⟨a, l, t, p, q, r, rfl, ha, hl, n1, n2, n3, k⟩ := h
    have er : (3 : Int) - p.i - q.i = r.i := by
      cases p <;> cases q <;> cases r <;> first | exact absurd rfl n1 | exact absurd rfl n2 | exact absurd rfl n3 | rfl
    walk_at "gos"
    have hl' : H l = some (.lst [.int p.i, .int q.i]) := hl
    refine go_gUnl (SqL.of hl') rfl ?_
    walk_at "gos"
    refine ⟨r, by rw [er], ?_⟩
    walk_at "gos"
    refine go_rIxT (SqT.of ha) (at_opp r t) ?_
    walk_at "gos"
    exact k
theorem ok_arrows_in (T : Top w K mg) : OkD P w K mg base 2 (He.ga K "arrows_in") ["numbers", "core"] (sp_arrows_in K) := by
  obtain ⟨fd, F⟩ := T.f_arrows_in
  exact ⟨fd, fn_arrows_in T F, F.binds (ps := ["numbers", "core"]) fun _ _ _ _ _ _ us hl => match us, hl with | [_, _], _ => rfl, F.kp⟩
end
end At

namespace At
open L2 PyProof.Rows PySem.Spec PySem
section
variable {base : Heap} {w : World} {K : PySem.W.Frag} {mg : Str → Option Value} {P : Program}
abbrev N_even_repeats : List Str := ["numbers", "core", "most", "first", "second", "last", "difference"]
theorem sc_even_repeats : FnScope N_even_repeats ["numbers", "core", "most"] (defScope s_even_repeats) := ⟨rfl, rfl, rfl, by decide +kernel, rfl, by decide +kernel, by decide +kernel⟩
def sp_even_repeats (K : PySem.W.Frag) : Sp := fun vs H Q _ => ∃ a l t ps m, vs = [.ref a, .ref l, .int m] ∧ H a = some (.tup (tv t)) ∧ H l = some (.lst (pl ps)) ∧ red ps ∧ 0 < m ∧ big t ≤ MID ∧ ∀ j : Int, j ≤ m → (0 < j → EvenOk t ps j.toNat ∧ (j = m ∨ big (many j.toNat ps t) ≤ big t)) → Q (.int j) H
theorem fn_even_repeats (T : Top w K mg) {fd : FuncData} (F : Fun K "even_repeats" "even_repeats" s_even_repeats (He.ga K "even_repeats") fd) : FnOk P w K mg base CX0 3 (He.ga K "even_repeats") fd ["numbers", "core", "most"] (sp_even_repeats K) := by
  obtain ⟨fd_arrows_in, G_arrows_in, b_arrows_in, k_arrows_in⟩ := ok_arrows_in (P := P) (w := w) (base := base) T
  obtain ⟨fd_goes_round, G_goes_round, b_goes_round, k_goes_round⟩ := ok_goes_round (P := P) (w := w) (base := base) T
  obtain ⟨fd_place_behind, G_place_behind, b_place_behind, k_place_behind⟩ := ok_place_behind (P := P) (w := w) (base := base) T
  refine F.ok sc_even_repeats (fun vs H Q E h => ?hlen) (fun cdv A outer s H vs Q E hr h => ⟨_, (pss_cons (ps_if (PW.pt (pw_or (pt_cmpR op_ne (pe_callB call_len_seq (by rfl) T.b_len PySem.boot_len (pa_cons (pv 1) pa_nil)) pe_int (nomark _)) (pw_or (pt_not (pt_val (pe_call G_goes_round (hr.mono (by decide)) (by rfl) T.g_goes_round k_goes_round b_goes_round .nil pass0 (pa_cons (pv 0) pa_nil)))) (pw_or1 (pt_cmpR op_ne (pe_call G_arrows_in (hr.mono (by decide)) (by rfl) T.g_arrows_in k_arrows_in b_arrows_in .nil pass0 (pa_cons (pv 0) (pa_cons (pv 1) pa_nil))) pe_int (nomark _)))))) (pss_one (ps_ret pe_int)) pss_nil)
    (pss_cons (ps_asg (pv 1) (pg_unl rfl (pgs_cons (pg_name (i := 3) sc_even_repeats.nd rfl (Or.inl rfl)) (pgs_cons (pg_name (i := 4) sc_even_repeats.nd rfl (Or.inl rfl)) pgs_nil))))
    (pss_cons (ps_set (i := 5) sc_even_repeats.nd rfl (Or.inl rfl) (pe_callB call_abs (by rfl) T.b_abs (by decide +kernel) (pa_cons (pe_ix ix_tup (pv 0) (pe_call G_place_behind (hr.mono (by decide)) (by rfl) T.g_place_behind k_place_behind b_place_behind .nil pass0 (pa_cons (pv 4) pa_nil)) (fun _ _ => rfl)) pa_nil)))
    (pss_cons (ps_set (i := 6) sc_even_repeats.nd rfl (Or.inl rfl) (pe_op op_sub (pv 5) (pe_callB call_abs (by rfl) T.b_abs (by decide +kernel) (pa_cons (pe_ix ix_tup (pv 0) (pe_call G_place_behind (hr.mono (by decide)) (by rfl) T.g_place_behind k_place_behind b_place_behind .nil pass0 (pa_cons (pv 3) pa_nil)) (fun _ _ => rfl)) pa_nil))))
    (pss_cons (ps_if (pt_cmpR op_ge (pv 6) pe_int (nomark _)) (pss_one (ps_ret (pv 2))) pss_nil)
    (pss_one (ps_ret (pe_callB (call_min2 rfl) (by rfl) T.b_min (by decide +kernel) (pa_cons (pv 2) (pa_cons (pe_op op_fdivN (pe_op op_fdivW (pe_op op_sub (pv 5) pe_int) (pe_un un_neg (pv 6))) pe_int) pa_nil)))))))))), ?hrd⟩)
  case hlen =>
    obtain ⟨a, l, t, ps, m, rfl, _⟩ := h
    rfl
  case hrd =>
    obtain ⟨a, l, t, ps, m, rfl, ha, hl, hred, hm, hb, k⟩ := h
    have el : (pl ps).length = ps.length := List.length_map ..
    have none_ : Q (.int 0) H := k 0 (by omega) (fun z => absurd z (by omega))
    walk_at "gos"
    refine ⟨_, _, rfl, .inl (SqL.of hl), ?_⟩
    walk_at "gos"
    refine go_iteN (fun h1 => ?_) (fun h1 => ?_)
    · walk_at "gos"
      exact none_
    · rw [el] at h1
      obtain ⟨p, q, rfl⟩ : ∃ p q, ps = [p, q] := by
        cases ps with
        | nil => simp at h1
        | cons p ps => cases ps with
          | nil => simp at h1
          | cons q ps => cases ps with
            | nil => exact ⟨p, q, rfl⟩
            | cons r ps => simp at h1; omega
      have hpq : p ≠ q := hred.1
      obtain ⟨r, hqr, hpr⟩ : ∃ r : P3, q ≠ r ∧ p ≠ r := by
        cases p <;> cases q <;> first | exact absurd rfl hpq | exact ⟨.a, by decide, by decide⟩ | exact ⟨.b, by decide, by decide⟩ | exact ⟨.c, by decide, by decide⟩
      walk_at "gos"
      refine ⟨a, t, rfl, ha, fun b hbr => ?_⟩
      walk_at "gos"
      cases b with
      | false =>
        walk_at "gos"
        exact none_
      | true =>
        have hring := hbr.mp rfl
        walk_at "gos"
        refine ⟨a, l, t, p, q, r, rfl, ha, hl, hpq, hqr, hpr, ?_⟩
        walk_at "gos"
        refine go_iteN (fun h2 => ?_) (fun h2 => ?_)
        · walk_at "gos"
          exact none_
        · walk_at "gos"
          have hl' : H l = some (.lst [.int p.i, .int q.i]) := hl
          refine go_gUnl (SqL.of hl') rfl ?_
          walk_at "gos"
          refine ⟨q, rfl, ?_⟩
          walk_at "gos"
          refine go_rIxT (SqT.of ha) (at_opp q t) ?_
          walk_at "gos"
          refine ⟨p, rfl, ?_⟩
          walk_at "gos"
          refine go_rIxT (SqT.of ha) (at_opp p t) ?_
          walk_at "gos"
          refine go_ite (fun h3 => ?_) (fun h3 => ?_)
          · walk_at "gos"
            exact k m (Int.le_refl _) fun hj => ⟨even_ok hpq hqr hpr hring h2 hj (.inl h3), .inl rfl⟩
          · have h3' : ¬ 0 ≤ nat (opp q t) - nat (opp p t) := h3
            have hbq := (big_at (p := q) hb).2.2
            have hbp := (big_at (p := p) hb).2.2
            have hq0 := nat_nonneg (opp q t)
            have hp0 := nat_nonneg (opp p t)
            walk_at "gos"
            refine go_rI ?_ ?_
            · show CDivW (nat (opp q t) - 1) (-(nat (opp q t) - nat (opp p t)))
              refine ⟨by omega, (Nat.log2_lt (by omega)).mpr ?_⟩
              have h8 : (-(nat (opp q t) - nat (opp p t))) ≤ MID := by omega
              have h9 : (-(nat (opp q t) - nat (opp p t))).natAbs ≤ 2 ^ 8000 := by
                have : (((-(nat (opp q t) - nat (opp p t))).natAbs : Nat) : Int) ≤ 2 ^ 8000 := by
                  have h10 : (((-(nat (opp q t) - nat (opp p t))).natAbs : Nat) : Int) = -(nat (opp q t) - nat (opp p t)) := by omega
                  rw [h10]
                  exact h8
                exact_mod_cast this
              exact Nat.lt_of_le_of_lt h9 (Nat.pow_lt_pow_right (by decide) (by decide))
            · walk_at "gos"
              show Q (.int (if ((nat (opp q t) - 1) / -(nat (opp q t) - nat (opp p t))).fdiv 2 < m then ((nat (opp q t) - 1) / -(nat (opp q t) - nat (opp p t))).fdiv 2 else m)) H
              (rw [Int.fdiv_eq_ediv_of_nonneg _ (by decide)])
              refine k _ ?_ fun hj => ?_
              · split <;> omega
              · have ok := even_ok hpq hqr hpr hring h2 hj (.inr (by
                  split <;> rename_i h11
                  · exact Int.le_refl _
                  · exact Int.not_lt.mp h11))
                exact ⟨ok, .inr (even_small hring ok (by omega) (by omega) (Int.le_refl _))⟩
theorem ok_even_repeats (T : Top w K mg) : OkD P w K mg base 3 (He.ga K "even_repeats") ["numbers", "core", "most"] (sp_even_repeats K) := by
  obtain ⟨fd, F⟩ := T.f_even_repeats
  exact ⟨fd, fn_even_repeats T F, F.binds (ps := ["numbers", "core", "most"]) fun _ _ _ _ _ _ us hl => match us, hl with | [_, _, _], _ => rfl, F.kp⟩
end
end At

namespace At
open L2 PyProof.Rows PySem.Spec PySem
section
variable {base : Heap} {w : World} {K : PySem.W.Frag} {mg : Str → Option Value} {P : Program}
abbrev N_behind_even : List Str := ["numbers", "core", "many", "opposite_first", "opposite_second", "change", "behind", "place"]
theorem sc_behind_even : FnScope N_behind_even ["numbers", "core", "many"] (defScope s_behind_even) := ⟨rfl, rfl, rfl, by decide +kernel, rfl, by decide +kernel, by decide +kernel⟩
def sp_behind_even (K : PySem.W.Frag) : Sp := fun vs H Q _ => ∃ a l t ps m, vs = [.ref a, .ref l, .int m] ∧ H a = some (.tup (tv t)) ∧ H l = some (.lst (pl ps)) ∧ 0 < m ∧ m ≤ MID ∧ big t ≤ MID ∧ EvenOk t ps m.toNat ∧ ∀ p' H', H p' = none → Ext H H' → H' p' = some (.tup (tv (many m.toNat ps t))) → Q (.ref p') H'
theorem fn_behind_even (T : Top w K mg) {fd : FuncData} (F : Fun K "behind_even" "behind_even" s_behind_even (He.ga K "behind_even") fd) : FnOk P w K mg base CX0 2 (He.ga K "behind_even") fd ["numbers", "core", "many"] (sp_behind_even K) := by
  obtain ⟨fd_place_behind, G_place_behind, b_place_behind, k_place_behind⟩ := ok_place_behind (P := P) (w := w) (base := base) T
  refine F.ok sc_behind_even (fun vs H Q E h => ?hlen) (fun cdv A outer s H vs Q E hr h => ⟨_, (pss_cons (ps_asg (pe_lc (own := [("place", 7)]) (g := gName 7) (tt := tYes) (by rfl) sc_behind_even.nd (pi_list (pv 1)) (blkOk_by (own := [("place", 7)]) (N := N_behind_even) (sc := defScope s_behind_even) (by decide +kernel)) (fun _ _ _ _ _ => pg_name (i := 7) sc_behind_even.nd rfl (Or.inl rfl)) (fun _ _ _ _ _ => pts_nil) (fun _ _ _ _ _ => (pe_call G_place_behind (hr.mono (by decide)) (by rfl) T.g_place_behind k_place_behind b_place_behind .nil pass0 (pa_cons (pv 7) pa_nil)))) (pg_unl rfl (pgs_cons (pg_name (i := 3) sc_behind_even.nd rfl (Or.inl rfl)) (pgs_cons (pg_name (i := 4) sc_behind_even.nd rfl (Or.inl rfl)) pgs_nil))))
    (pss_cons (ps_set (i := 5) sc_behind_even.nd rfl (Or.inl rfl) (pe_op op_mulW (pe_op op_mul pe_int (pv 2)) (pe_op op_sub (pe_ix ix_tup (pv 0) (pv 4) (fun _ _ => rfl)) (pe_ix ix_tup (pv 0) (pv 3) (fun _ _ => rfl)))))
    (pss_cons (ps_set (i := 6) sc_behind_even.nd rfl (Or.inl rfl) (pe_callTy call_list_of (by rfl) T.b_list (by decide +kernel) (pa_cons (pv 0) pa_nil)))
    (pss_cons (ps_augS (pv 6) (pv 3) get_list (pv 5) ip_add set_list)
    (pss_cons (ps_augS (pv 6) (pv 4) get_list (pv 5) ip_add set_list)
    (pss_one (ps_ret (pe_callTy call_tuple_of (by rfl) T.b_tuple (by decide +kernel) (pa_cons (pv 6) pa_nil))))))))), ?hrd⟩)
  case hlen =>
    obtain ⟨a, l, t, ps, m, rfl, _⟩ := h
    rfl
  case hrd =>
    obtain ⟨a, l, t, ps, m, rfl, ha, hl, hm, hm2, hb, hev, k⟩ := h
    obtain ⟨p, q, r, rfl, n1, n2, n3, e1, e2, e3⟩ := even_end hev
    have em : ((m.toNat : Nat) : Int) = m := by omega
    rw [em] at e1 e2
    walk_at "gos"
    refine go_lc ?_
    walk_at "gos"
    refine ⟨⟨_, SqL.of hl⟩, lc_lstP hl (Nat.le_of_ble_eq_true rfl) (fun x => match x with
      | .int 0 => .int 1
      | .int 1 => .int 2
      | _ => .int 0) (fun D nD x H' hx e QE hq => ?_) fun D nD H' e hD => ?_⟩
    · obtain ⟨z, rfl⟩ : ∃ z : P3, x = .int z.i := by
        simp only [pl, List.map_cons, List.map_nil, List.mem_cons, List.not_mem_nil, or_false] at hx
        rcases hx with rfl | rfl <;> exact ⟨_, rfl⟩
      walk_at "gos"
      refine ⟨rfl, ?_⟩
      walk_at "gos"
      refine ⟨z, rfl, ?_⟩
      have := hq H' (Evl.Ex.refl _)
      cases z <;> exact this
    · have hD' : H' D = some (.lst [.int (nxt p).i, .int (nxt q).i]) := by
        rw [hD]
        cases p <;> cases q <;> rfl
      have ha' := e a _ ha
      walk_at "gos"
      refine go_gUnl (SqL.of hD') rfl ?_
      walk_at "gos"
      refine go_rIxT (SqT.of ha') (at_opp q t) ?_
      walk_at "gos"
      refine go_rIxT (SqT.of ha') (at_opp p t) ?_
      walk_at "gos"
      have b1 := (big_at (p := p) hb).2.2
      have b2 := (big_at (p := q) hb).2.2
      refine go_rI (mul_ok (B := HALF) half_huge ?_ ?_) ?_
      · have e5 : nat (2 * m) = 2 * m := by unfold nat; rw [if_neg (by omega)]
        rw [e5]
        exact Int.le_trans (show 2 * m ≤ 2 * MID by omega) (by decide +kernel)
      · have e6 := nat_add_le (opp q t) (-opp p t)
        rw [nat_neg] at e6
        rw [Int.sub_eq_add_neg]
        exact Int.le_trans (show nat (opp q t + -opp p t) ≤ 2 * MID by omega) (by decide +kernel)
      walk_at "gos"
      refine ⟨a, tv t, rfl, .inr (SqT.of ha'), fun b nb => ?_⟩
      walk_at "gos"
      refine go_rGetL (nxt_lo p) (nxt_hi p) (SqL.of upd_same) (at_opp2 p t) ?_
      walk_at "gos"
      refine go_rSetL upd_same (at_ix p t) ?_
      rw [upd_upd]
      walk_at "gos"
      refine go_rGetL (nxt_lo q) (nxt_hi q) (SqL.of upd_same) (at_opp3 n1 t _) ?_
      walk_at "gos"
      refine go_rSetL upd_same (at_ix2 q t _ _) ?_
      rw [upd_upd]
      walk_at "gos"
      rw [at_set5 n1 n2 n3 t (many m.toNat [p, q] t) e1 e2 e3]
      refine ⟨b, _, rfl, .inl ⟨SqL.of upd_same, fun l' nl => k l' _ ?_ ?_ upd_same⟩⟩
      · exact Evl.fresh_back (e.trans (Evl.Ex.new nb)) nl
      · exact ext_new (e.trans (Evl.Ex.new nb)) nl
theorem ok_behind_even (T : Top w K mg) : OkD P w K mg base 2 (He.ga K "behind_even") ["numbers", "core", "many"] (sp_behind_even K) := by
  obtain ⟨fd, F⟩ := T.f_behind_even
  exact ⟨fd, fn_behind_even T F, F.binds (ps := ["numbers", "core", "many"]) fun _ _ _ _ _ _ us hl => match us, hl with | [_, _, _], _ => rfl, F.kp⟩
end
end At

namespace At
open L2 PyProof.Rows PySem.Spec PySem
section
variable {base : Heap} {w : World} {K : PySem.W.Frag} {mg : Str → Option Value} {P : Program}
abbrev N_behind_repeated : List Str := ["numbers", "core", "times", "found", "left", "many"]
theorem sc_behind_repeated : FnScope N_behind_repeated ["numbers", "core", "times"] (defScope s_behind_repeated) := ⟨rfl, rfl, rfl, by decide +kernel, rfl, by decide +kernel, by decide +kernel⟩
def sp_behind_repeated (K : PySem.W.Frag) : Sp := fun vs H Q _ => ∃ a l t ps m B, vs = [.ref a, .ref l, .int m] ∧ H a = some (.tup (tv t)) ∧ H l = some (.lst (pl ps)) ∧ ps.length ≤ 1000 ∧ red ps ∧ 0 ≤ m ∧ m ≤ MID ∧ GR ≤ B ∧ 4 * mk t ≤ 3 * (B * B) ∧ big t ≤ B ∧ B ≤ MID ∧
  (∀ p H', Ext H H' → H' p = some (.tup (tv (many m.toNat ps t))) → big (many m.toNat ps t) ≤ B + 2 * MID * (2 * B) → Q (.ref p) H') ∧ (∀ H', Ext H H' → (∃ n pre p post, n < m.toNat ∧ ps = pre ++ p :: post ∧ Beyond GR p (walk (many n ps t) (pre ++ [p]))) → Q .non H')
def RepW (H : Hp) (a l : Addr) (t : T3) (ps : List P3) (m B : Int) (k : Nat) (σ' : L2.St) (H' : Hp) : Prop := ∃ p j y, σ' = [some (.ref a), some (.ref l), some (.int m), some (.ref p), some (.int j), y] ∧ Ext H H' ∧ k = j.toNat ∧ 0 ≤ j ∧ j ≤ m ∧ H' p = some (.tup (tv (many (m - j).toNat ps t))) ∧ (0 < j → big (many (m - j).toNat ps t) ≤ B) ∧ big (many (m - j).toNat ps t) ≤ B + 2 * MID * (2 * B)
theorem fn_behind_repeated (T : Top w K mg) {fd : FuncData} (F : Fun K "behind_repeated" "behind_repeated" s_behind_repeated (He.ga K "behind_repeated") fd) : FnOk P w K mg base CX0 6 (He.ga K "behind_repeated") fd ["numbers", "core", "times"] (sp_behind_repeated K) := by
  obtain ⟨fd_even_repeats, G_even_repeats, b_even_repeats, k_even_repeats⟩ := ok_even_repeats (P := P) (w := w) (base := base) T
  obtain ⟨fd_behind_even, G_behind_even, b_behind_even, k_behind_even⟩ := ok_behind_even (P := P) (w := w) (base := base) T
  obtain ⟨fd_behind_way, G_behind_way, b_behind_way, k_behind_way⟩ := ok_behind_way (P := P) (w := w) (base := base) T
  refine F.ok sc_behind_repeated (fun vs H Q E h => ?hlen) (fun cdv A outer s H vs Q E hr h => ⟨_, (pss_cons (ps_set (i := 3) sc_behind_repeated.nd rfl (Or.inl rfl) (pv 0))
    (pss_cons (ps_set (i := 4) sc_behind_repeated.nd rfl (Or.inl rfl) (pv 2))
    (pss_cons (ps_while PassesOwn.never (pt_cmpR op_gt (pv 4) pe_int (nomark _)) (pss_cons (ps_set (i := 5) sc_behind_repeated.nd rfl (Or.inl rfl) (pe_call G_even_repeats (hr.mono (by decide)) (by rfl) T.g_even_repeats k_even_repeats b_even_repeats .nil pass0 (pa_cons (pv 3) (pa_cons (pv 1) (pa_cons (pv 4) pa_nil)))))
    (pss_cons (ps_if (pt_cmpR op_gt (pv 5) pe_int (nomark _)) (pss_cons (ps_set (i := 3) sc_behind_repeated.nd rfl (Or.inl rfl) (pe_call G_behind_even (hr.mono (by decide)) (by rfl) T.g_behind_even k_behind_even b_behind_even .nil pass0 (pa_cons (pv 3) (pa_cons (pv 1) (pa_cons (pv 5) pa_nil)))))
    (pss_cons (ps_set (i := 4) sc_behind_repeated.nd rfl (Or.inl rfl) (pe_op op_sub (pv 4) (pv 5)))
    (pss_one ps_continue))) pss_nil)
    (pss_cons (ps_set (i := 3) sc_behind_repeated.nd rfl (Or.inl rfl) (pe_call G_behind_way (hr.mono (by decide)) (by rfl) T.g_behind_way k_behind_way b_behind_way .nil pass0 (pa_cons (pv 3) (pa_cons (pv 1) pa_nil))))
    (pss_cons (ps_if (pt_cmpR op_isN (pv 3) pe_non (nomark _)) (pss_one (ps_ret pe_non)) pss_nil)
    (pss_cons (ps_set (i := 4) sc_behind_repeated.nd rfl (Or.inl rfl) (pe_op op_sub (pv 4) pe_int))
    (pss_one (ps_if (pt_cmpR (op_eqD (hu64 hr)) (pv 3) (pv 0) (nomark _)) (pss_one (ps_set (i := 4) sc_behind_repeated.nd rfl (Or.inl rfl) (pe_op op_modN (pv 4) (pe_op op_sub (pv 2) (pv 4))))) pss_nil))))))))
    (pss_one (ps_ret (pv 3)))))), ?hrd⟩)
  case hlen =>
    obtain ⟨a, l, t, ps, m, B, rfl, _⟩ := h
    rfl
  case hrd =>
    obtain ⟨a, l, t, ps, m, B, rfl, ha, hl, hlen, hred, hm0, hm1, hG, hmk, hb, hB, q1, q2⟩ := h
    have hB0 : 0 ≤ B := Int.le_trans (by decide) hG
    have hM0 : 0 ≤ MID := by decide
    have hBB : B ≤ B + 2 * MID * (2 * B) := by
      have := Int.mul_nonneg (show 0 ≤ 2 * MID by omega) (show 0 ≤ 2 * B by omega)
      omega
    walk_at "gos"
    refine go_while (RepW H a l t ps m B) m.toNat ⟨a, m, none, rfl, Evl.Ex.refl _, rfl, hm0, Int.le_refl _, by rw [Int.sub_self]; exact ha, fun _ => by rw [Int.sub_self]; exact hb, by rw [Int.sub_self]; exact Int.le_trans hb hBB⟩ ?_
    rintro k σ' H' ⟨p, j, y, rfl, e, rfl, h0, h1, hp, hbp, hbq⟩
    walk_at "gos"
    refine go_ite (fun c1 => ?_) (fun c1 => ?_)
    · refine ⟨fun s2 h2 => ∃ m', m' < j.toNat ∧ RepW H a l t ps m B m' s2 h2, fun _ _ h => h, ?_⟩
      have hb1 := hbp c1
      have hl1 := e l _ hl
      walk_at "gos"
      refine ⟨p, l, many (m - j).toNat ps t, ps, j, rfl, hp, hl1, hred, c1, Int.le_trans hb1 hB, fun i hi hev => ?_⟩
      walk_at "gos"
      refine go_ite (fun c2 => ?_) (fun c2 => ?_)
      · walk_at "gos"
        obtain ⟨ok, hs⟩ := hev c2
        refine ⟨p, l, _, ps, i, rfl, hp, hl1, c2, by omega, Int.le_trans hb1 hB, ok, fun p' H2 np e2 h2 => ?_⟩
        walk_at "gos"
        have e3 : many i.toNat ps (many (m - j).toNat ps t) = many (m - (j - i)).toNat ps t := by
          rw [← many_add]
          congr 1
          omega
        have hbig := even_big ok hb1
        rw [e3] at h2 hs hbig
        refine ⟨(j - i).toNat, by omega, p', j - i, some (.int i), rfl, e.trans e2, rfl, by omega, by omega, h2, fun z => ?_, ?_⟩
        · rcases hs with rfl | hs
          · omega
          · exact Int.le_trans hs hb1
        · have g1 : 2 * ((i.toNat : Nat) : Int) * (2 * B) ≤ 2 * MID * (2 * B) := Int.mul_le_mul_of_nonneg_right (by omega) (by omega)
          omega
      · walk_at "gos"
        have emk : mk (many (m - j).toNat ps t) = mk t := by rw [← walk_rep, mk_walk]
        refine ⟨p, l, _, ps, B, rfl, hp, hl1, hlen, hG, by rw [emk]; exact hmk, hb1, Int.le_trans hB mid_half, fun p' H2 e2 h2 hb2 => ?_, fun H2 e2 hex => ?_⟩
        · have e3 : walk (many (m - j).toNat ps t) ps = many (m - (j - 1)).toNat ps t := by
            have e4 : (m - (j - 1)).toNat = (m - j).toNat + 1 := by omega
            rw [e4, many_add]
            rfl
          rw [e3] at h2 hb2
          walk_at "gos"
          refine ⟨rfl, ?_⟩
          walk_at "gos"
          refine go_ite (fun z => nomatch z) (fun _ => ?_)
          walk_at "gos"
          refine go_eq3 h2 ((e.trans e2) a _ ha) ?_
          walk_at "gos"
          refine go_ite (fun c3 => ?_) (fun c3 => ?_)
          · rw [c3] at h2
            obtain ⟨f1, f2, f3⟩ := fold_round (m := m) (j := j - 1) (by omega) (by omega) c3
            walk_at "gos"
            refine ⟨((j - 1).fmod (m - (j - 1))).toNat, by omega, p', (j - 1).fmod (m - (j - 1)), _, rfl, e.trans e2, rfl, f1, by omega, by rw [f3]; exact h2, fun _ => by rw [f3]; exact hb, by rw [f3]; exact Int.le_trans hb hBB⟩
          · walk_at "gos"
            refine ⟨(j - 1).toNat, by omega, p', j - 1, _, rfl, e.trans e2, rfl, by omega, by omega, h2, fun _ => hb2, Int.le_trans hb2 hBB⟩
        · walk_at "gos"
          refine ⟨rfl, ?_⟩
          walk_at "gos"
          obtain ⟨pre, c, post, e5, hbey⟩ := hex
          exact q2 H2 (e.trans e2) ⟨(m - j).toNat, pre, c, post, by omega, e5, hbey⟩
    · have ej : j = 0 := by omega
      subst ej
      rw [Int.sub_zero] at hp hbq
      walk_at "gos"
      exact q1 p H' e hp hbq
theorem ok_behind_repeated (T : Top w K mg) : OkD P w K mg base 6 (He.ga K "behind_repeated") ["numbers", "core", "times"] (sp_behind_repeated K) := by
  obtain ⟨fd, F⟩ := T.f_behind_repeated
  exact ⟨fd, fn_behind_repeated T F, F.binds (ps := ["numbers", "core", "times"]) fun _ _ _ _ _ _ us hl => match us, hl with | [_, _, _], _ => rfl, F.kp⟩
theorem rep_sp {K : PySem.W.Frag} {a l : Addr} {t : T3} {ps : List P3} {B m : Int} {H : Hp} {Q : VK} {E : XK} (ha : H a = some (.tup (tv t))) (hl : H l = some (.lst (pl ps))) (hlen : ps.length ≤ 1000) (hr : red ps) (h0 : 0 ≤ m) (h1 : m ≤ MID) (hG : GR ≤ B) (hm : 4 * mk t ≤ 3 * (B * B)) (hb : big t ≤ B) (hB : B ≤ MID)
    (k : ∀ v H', Ext H H' → ((v = .non ∧ ∃ n pre p post, n < m.toNat ∧ ps = pre ++ p :: post ∧ Beyond GR p (walk (many n ps t) (pre ++ [p]))) ∨ ∃ p, v = .ref p ∧ H' p = some (.tup (tv (many m.toNat ps t))) ∧ big (many m.toNat ps t) ≤ B + 2 * MID * (2 * B)) → Q v H') : sp_behind_repeated K [.ref a, .ref l, .int m] H Q E :=
  ⟨a, l, t, ps, m, B, rfl, ha, hl, hlen, hr, h0, h1, hG, hm, hb, hB, fun p H' e h b => k _ H' e (.inr ⟨p, rfl, h, b⟩), fun H' e h => k _ H' e (.inl ⟨rfl, h⟩)⟩
end
end At

namespace At
open L2 PyProof.Rows PySem.Spec PySem
section
variable {base : Heap} {w : World} {K : PySem.W.Frag} {mg : Str → Option Value} {P : Program}
abbrev N_places_of : List Str := ["word", "letter"]
theorem sc_places_of : FnScope N_places_of ["word"] (defScope s_places_of) := ⟨rfl, rfl, rfl, by decide +kernel, rfl, by decide +kernel, by decide +kernel⟩
def sp_places_of (K : PySem.W.Frag) : Sp := fun vs H Q _ => ∃ ps, vs = [.str (wd ps)] ∧ ps.length ≤ 1000 ∧ ∀ p H', H p = none → Ext H H' → H' p = some (.lst (pl ps)) → Q (.ref p) H'
theorem fn_places_of (T : Top w K mg) {fd : FuncData} (F : Fun K "places_of" "places_of" s_places_of (He.ga K "places_of") fd) : FnOk P w K mg base CX0 1 (He.ga K "places_of") fd ["word"] (sp_places_of K) := by
  obtain ⟨es_PLACE_OF, n_PLACE_OF, D_PLACE_OF⟩ := T.d_PLACE_OF
  refine F.ok sc_places_of (fun vs H Q E h => ?hlen) (fun cdv A outer s H vs Q E hr h => ⟨_, (pss_one (ps_ret (pe_lc (own := [("letter", 1)]) (g := gName 1) (tt := tYes) (by rfl) sc_places_of.nd (pi_str (pv 0)) (blkOk_by (own := [("letter", 1)]) (N := N_places_of) (sc := defScope s_places_of) (by decide +kernel)) (fun _ _ _ _ _ => pg_name (i := 1) sc_places_of.nd rfl (Or.inl rfl)) (fun _ _ _ _ _ => pts_nil) (fun _ _ _ _ _ => (pe_ix (ix_kd' D_PLACE_OF) (pe_glob (v := .ref _) rfl T.g_PLACE_OF rfl) (pv 1) (fun _ _ => rfl)))))), ?hrd⟩)
  case hlen =>
    obtain ⟨ps, rfl, _⟩ := h
    rfl
  case hrd =>
    obtain ⟨ps, rfl, hlen, q⟩ := h
    have hv : ∀ p : P3, ∃ u, PySem.W.nsIn K (He.ga K "PLACE_OF") (lt p) = some (some u) ∧ RelV (.int p.i) u := fun p => by
      cases p
      · rw [lt_a]; exact He.valsB_ok T.x_val_PLACE_OF (q := ("a", .int 0)) (by simp)
      · rw [lt_b]; exact He.valsB_ok T.x_val_PLACE_OF (q := ("b", .int 1)) (by simp)
      · rw [lt_c]; exact He.valsB_ok T.x_val_PLACE_OF (q := ("c", .int 2)) (by simp)
    walk_at "gos"
    refine go_lc ?_
    walk_at "gos"
    refine lc_strP (by rw [wd_size]; omega) (fun c => .int (chi c)) (fun D nD c H' hc e QE hq => ?_) fun D nD H' e hD => ?_
    · obtain ⟨p, rfl⟩ := wd_mem hc
      walk_at "gos"
      refine ⟨rfl, ?_⟩
      walk_at "gos"
      obtain ⟨u, hu, ru⟩ := hv p
      refine ⟨lt p, u, .int p.i, rfl, rfl, hu, ru, ?_⟩
      rw [← chi_ch p]
      exact hq H' (Evl.Ex.refl _)
    · refine q D H' nD e ?_
      rw [hD, wd_list]
theorem ok_places_of (T : Top w K mg) : OkD P w K mg base 1 (He.ga K "places_of") ["word"] (sp_places_of K) := by
  obtain ⟨fd, F⟩ := T.f_places_of
  exact ⟨fd, fn_places_of T F, F.binds (ps := ["word"]) fun _ _ _ _ _ _ us hl => match us, hl with | [_], _ => rfl, F.kp⟩
end
end At

namespace At
open L2 PyProof.Rows PySem.Spec PySem
section
variable {base : Heap} {w : World} {K : PySem.W.Frag} {mg : Str → Option Value} {P : Program}
abbrev N_behind_pair : List Str := ["numbers", "word", "times", "way", "core", "found", "root"]
theorem sc_behind_pair : FnScope N_behind_pair ["numbers", "word", "times"] (defScope s_behind_pair) := ⟨rfl, rfl, rfl, by decide +kernel, rfl, by decide +kernel, by decide +kernel⟩
def sp_behind_pair (K : PySem.W.Frag) : Sp := fun vs H Q _ => ∃ a t ps m, vs = [.ref a, .str (wd ps), .int m] ∧ H a = some (.tup (tv t)) ∧ ps.length ≤ 1000 ∧ big t ≤ GR ∧ 0 ≤ m ∧ m ≤ MT ∧
  (∀ p H', big (many m.toNat ps t) ≤ GR → Ext H H' → H' p = some (.tup (tv (many m.toNat ps t))) → Q (.ref p) H') ∧ (∀ H', GR < big (many m.toNat ps t) → Ext H H' → Q .non H')
/-- once the times are settled -/
def PairA (H1 : Hp) (a pw pc : Addr) (ps w c : List P3) (t : T3) (m : Int) (σ' : L2.St) (H' : Hp) : Prop := H' = H1 ∧ ∃ m', σ' = [some (.ref a), some (.str (wd ps)), some (.int m'), some (.ref pw), some (.ref pc), none, none] ∧ 0 ≤ m' ∧ m' ≤ MT ∧ many m.toNat c (walk t w) = many m'.toNat c (walk t w) ∧ (c.length = 1 → m'.toNat ≤ 1)
/-- once the core is done -/
def PairB (H : Hp) (a pw pc : Addr) (ps w : List P3) (m' : Int) (U : List P3) (t : T3) (σ' : L2.St) (H' : Hp) : Prop := ∃ v z, σ' = [some (.ref a), some (.str (wd ps)), some (.int m'), some (.ref pw), some (.ref pc), some v, z] ∧ Ext H H' ∧ H' pw = some (.lst (pl w)) ∧ ((v = .non ∧ GR < big (walk t (U ++ w.reverse))) ∨ ∃ p, v = .ref p ∧ H' p = some (.tup (tv (walk t U))) ∧ big (walk t U) ≤ BB3)
/-- once the way back is done -/
def PairC (H : Hp) (a pw pc : Addr) (ps : List P3) (m' : Int) (s : T3) (σ' : L2.St) (H' : Hp) : Prop := ∃ v z, σ' = [some (.ref a), some (.str (wd ps)), some (.int m'), some (.ref pw), some (.ref pc), some v, z] ∧ Ext H H' ∧ ((v = .non ∧ GR < big s) ∨ ∃ p, v = .ref p ∧ H' p = some (.tup (tv s)))
theorem fn_behind_pair (T : Top w K mg) {fd : FuncData} (F : Fun K "behind_pair" "behind_pair" s_behind_pair (He.ga K "behind_pair") fd) : FnOk P w K mg base CX0 7 (He.ga K "behind_pair") fd ["numbers", "word", "times"] (sp_behind_pair K) := by
  obtain ⟨fd_way_and_core, G_way_and_core, b_way_and_core, k_way_and_core⟩ := ok_way_and_core (P := P) (w := w) (base := base) T
  obtain ⟨fd_without_doubles, G_without_doubles, b_without_doubles, k_without_doubles⟩ := ok_without_doubles (P := P) (w := w) (base := base) T
  obtain ⟨fd_places_of, G_places_of, b_places_of, k_places_of⟩ := ok_places_of (P := P) (w := w) (base := base) T
  obtain ⟨fd_behind_way, G_behind_way, b_behind_way, k_behind_way⟩ := ok_behind_way (P := P) (w := w) (base := base) T
  obtain ⟨fd_root_of, G_root_of, b_root_of, k_root_of⟩ := ok_root_of (P := P) (w := w) (base := base) T
  obtain ⟨fd_behind_repeated, G_behind_repeated, b_behind_repeated, k_behind_repeated⟩ := ok_behind_repeated (P := P) (w := w) (base := base) T
  obtain ⟨fd_sizes_of, G_sizes_of, b_sizes_of, k_sizes_of⟩ := ok_sizes_of (P := P) (w := w) (base := base) T
  obtain ⟨u_GREATEST, e_GREATEST, r_GREATEST⟩ := T.n_GREATEST
  refine F.ok sc_behind_pair (fun vs H Q E h => ?hlen) (fun cdv A outer s H vs Q E hr h => ⟨_, (pss_cons (ps_asg (pe_call G_way_and_core (hr.mono (by decide)) (by rfl) T.g_way_and_core k_way_and_core b_way_and_core .nil pass0 (pa_cons (pe_call G_without_doubles (hr.mono (by decide)) (by rfl) T.g_without_doubles k_without_doubles b_without_doubles .nil pass0 (pa_cons (pe_call G_places_of (hr.mono (by decide)) (by rfl) T.g_places_of k_places_of b_places_of .nil pass0 (pa_cons (pv 1) pa_nil)) pa_nil)) pa_nil)) (pg_tup (by rfl) (pgs_cons (pg_name (i := 3) sc_behind_pair.nd rfl (Or.inl rfl)) (pgs_cons (pg_name (i := 4) sc_behind_pair.nd rfl (Or.inl rfl)) pgs_nil))))
    (Evl.pss_cut (ps_if (pt_cmpR op_eq (pe_callB call_len_seq (by rfl) T.b_len PySem.boot_len (pa_cons (pv 4) pa_nil)) pe_int (nomark _)) (pss_one (ps_set (i := 2) sc_behind_pair.nd rfl (Or.inl rfl) (pe_op op_modN (pv 2) pe_int))) pss_nil)
    (pss_cons (ps_if (PW.pt (pw_or (pt_cmpR op_eq (pv 2) pe_int (nomark _)) (pw_or1 (pt_not (pt_truth (pv 4) (by intro _; rfl)))))) (pss_one (ps_ret (pv 0))) pss_nil)
    (pss_cons (ps_set (i := 5) sc_behind_pair.nd rfl (Or.inl rfl) (pe_call G_behind_way (hr.mono (by decide)) (by rfl) T.g_behind_way k_behind_way b_behind_way .nil pass0 (pa_cons (pv 0) (pa_cons (pv 3) pa_nil))))
    (Evl.pss_cut (ps_if (pt_cmpR op_notN (pv 5) pe_non (nomark _)) (pss_cons (ps_set (i := 6) sc_behind_pair.nd rfl (Or.inl rfl) (pe_call G_root_of (hr.mono (by decide)) (by rfl) T.g_root_of k_root_of b_root_of .nil pass0 (pa_cons (pv 4) pa_nil)))
    (pss_one (ps_set (i := 5) sc_behind_pair.nd rfl (Or.inl rfl) (pe_call G_behind_repeated (hr.mono (by decide)) (by rfl) T.g_behind_repeated k_behind_repeated b_behind_repeated .nil pass0 (pa_cons (pv 5) (pa_cons (pv 6) (pa_cons (pe_op op_mulW (pv 2) (pe_op op_fdivW (pe_callB call_len_seq (by rfl) T.b_len PySem.boot_len (pa_cons (pv 4) pa_nil)) (pe_callB call_len_seq (by rfl) T.b_len PySem.boot_len (pa_cons (pv 6) pa_nil)))) pa_nil))))))) pss_nil)
    (Evl.pss_cut (ps_if (pt_cmpR op_notN (pv 5) pe_non (nomark _)) (pss_one (ps_set (i := 5) sc_behind_pair.nd rfl (Or.inl rfl) (pe_call G_behind_way (hr.mono (by decide)) (by rfl) T.g_behind_way k_behind_way b_behind_way .nil pass0 (pa_cons (pv 5) (pa_cons (pe_revL (pv 3)) pa_nil))))) pss_nil)
    (pss_cons (ps_if (PW.pt (pw_or (pt_cmpR op_isN (pv 5) pe_non (nomark _)) (pw_or1 (pt_cmpR op_gt (pe_callB (cr_mostT rfl hr) (by rfl) T.b_max (by decide +kernel) (pa_cons (pe_call G_sizes_of (hr.mono (by decide)) (by rfl) T.g_sizes_of k_sizes_of b_sizes_of .nil pass0 (pa_cons (pv 5) pa_nil)) pa_nil)) (pe_glob rfl e_GREATEST r_GREATEST) (nomark _))))) (pss_one (ps_ret pe_non)) pss_nil)
    (pss_one (ps_ret (pv 5)))))))))), ?hrd⟩)
  case hlen =>
    obtain ⟨a, t, ps, m, rfl, _⟩ := h
    rfl
  case hrd =>
    obtain ⟨a, t, ps, m, rfl, ha, hlen, hb, hm0, hm1, q1, q2⟩ := h
    walk_at "gos"
    refine ⟨ps, rfl, hlen, fun p1 H1 n1 e1 h1 => ?_⟩
    walk_at "gos"
    refine ⟨p1, ps, rfl, h1, hlen, fun p2 H2 n2 e2 h2 => ?_⟩
    walk_at "gos"
    refine ⟨p2, keeps ps, rfl, h2, Nat.le_trans (keeps_length ps) hlen, fun w c pw pc p3 H3 hsp hc e3 hw hcc h3 => ?_⟩
    have hE : Ext H H3 := (e1.trans e2).trans e3
    have ec : (pl c).length = c.length := List.length_map ..
    have hcl : c.length ≤ 1000 := by
      have l1 := keeps_length ps
      rw [hsp, List.length_append, List.length_append] at l1
      omega
    have hwl : w.length ≤ 1000 := by
      have l1 := keeps_length ps
      rw [hsp, List.length_append, List.length_append] at l1
      omega
    have ha3 := hE a _ ha
    rw [parted hsp] at q1 q2
    walk_at "gos"
    refine go_gTup (SqT.of h3) rfl ?_
    walk_at "gos"
    refine go_cut (PairA H3 a pw pc ps w c t m) ?_ ?_
    · walk_at "gos"
      refine ⟨_, _, rfl, .inl (SqL.of hcc), ?_⟩
      walk_at "gos"
      refine go_ite (fun c1 => ?_) (fun c1 => ?_)
      · walk_at "gos"
        rw [ec] at c1
        obtain ⟨x, rfl⟩ : ∃ x, c = [x] := by
          cases c with
          | nil => simp at c1
          | cons x r => cases r with
            | nil => exact ⟨x, rfl⟩
            | cons y r => simp at c1; omega
        have e5 : m.fmod 2 = ((m.toNat % 2 : Nat) : Int) := by
          (rw [Int.fmod_eq_emod_of_nonneg _ (by decide)])
          omega
        refine ⟨rfl, m.fmod 2, rfl, by omega, ?_, ?_, fun _ => by omega⟩
        · exact Int.le_trans (show m.fmod 2 ≤ 1 by omega) (by decide +kernel)
        · rw [e5, Int.toNat_natCast]
          exact many_even x m.toNat _
      · walk_at "gos"
        rw [ec] at c1
        exact ⟨rfl, m, rfl, hm0, hm1, rfl, fun z => absurd (by rw [z]; rfl) c1⟩
    · rintro σ' H' ⟨rfl, m', rfl, hm2, hm3, hmm, hone⟩
      rw [hmm] at q1 q2
      have done0 : (m' = 0 ∨ c = []) → walk (many m'.toNat c (walk t w)) w.reverse = t := by
        rintro (rfl | rfl)
        · exact walk_back w t
        · rw [many_nil]; exact walk_back w t
      have ret0 : (m' = 0 ∨ c = []) → Q (.ref a) H' := fun z => q1 a H' (by rw [done0 z]; exact hb) hE (by rw [done0 z]; exact ha3)
      walk_at "gos"
      refine go_ite (fun c1 => ?_) (fun c1 => ?_)
      · walk_at "gos"
        exact ret0 (.inl c1)
      walk_at "gos"
      refine ⟨_, .inl ⟨_, SqL.of hcc, rfl⟩, ?_⟩
      by_cases hc0 : c = []
      · subst hc0
        refine go_iteT ?_
        walk_at "gos"
        exact ret0 (.inr rfl)
      refine go_iteNo (by cases c with
        | nil => exact absurd rfl hc0
        | cons x r => rfl) ?_
      walk_at "gos"
      have redW : red (w ++ rep m'.toNat c ++ w.reverse) := parted_red hsp hc hc0 (by omega) (fun z => by have := hone z; omega)
      rw [← walk_whole w c m'.toNat t] at q1 q2
      refine way_sp ha3 hw hwl gr_bb (mk_bb hb) (Int.le_trans hb gr_bb) (Int.le_trans bb_mid mid_half) fun v H4 e4 hv => ?_
      have hw4 := e4 _ _ hw
      have hc4 := e4 _ _ hcc
      walk_at "gos"
      refine go_cut (PairB H a pw pc ps w m' (w ++ rep m'.toNat c) t) ?_ ?_
      · walk_at "gos"
        refine ⟨rfl, ?_⟩
        walk_at "gos"
        rcases hv with ⟨rfl, hex⟩ | ⟨p4, rfl, h4, hb4⟩
        · refine go_iteN (fun z => absurd rfl z) (fun _ => ?_)
          walk_at "gos"
          refine ⟨.non, none, rfl, hE.trans e4, hw4, .inl ⟨rfl, ?_⟩⟩
          rw [List.append_assoc] at redW ⊢
          exact far_way redW hex
        · refine go_iteN (fun _ => ?_) (fun z => nomatch z)
          walk_at "gos"
          refine ⟨pc, c, rfl, hc4, hcl, hc0, fun r k p5 H5 hrk hk hr e5 h5 => ?_⟩
          walk_at "gos"
          refine ⟨_, _, rfl, .inl (SqL.of (e5 _ _ hc4)), ?_⟩
          walk_at "gos"
          refine ⟨_, _, rfl, .inl (SqL.of h5), ?_⟩
          have er : (pl r).length = r.length := List.length_map ..
          rw [ec, er]
          have elen : c.length = k * r.length := by rw [hrk, rep_length]
          have hrpos : 0 < r.length := List.length_pos_iff.mpr hr
          have hrle : r.length ≤ c.length := by rw [elen]; exact Nat.le_mul_of_pos_left _ hk
          have hkle : k ≤ c.length := by rw [elen]; exact Nat.le_mul_of_pos_right _ hrpos
          have hdiv : (c.length : Int) / (r.length : Int) = (k : Int) := by
            rw [elen, ← Int.natCast_ediv, Nat.mul_div_cancel _ hrpos]
          refine go_rI ⟨by omega, Nat.lt_of_le_of_lt (Nat.log2_le_self _) (by omega)⟩ ?_
          rw [hdiv]
          have hM1 : m' * (k : Int) ≤ MT * 1000 := Int.mul_le_mul hm3 (by omega) (by omega) (by decide)
          have hM2 : MT * 1000 ≤ MID := by decide +kernel
          have hM0 : 0 ≤ m' * (k : Int) := Int.mul_nonneg hm2 (by omega)
          refine go_rI (mul_ok (B := MID) (Int.le_trans mid_half half_huge) ?_ ?_) ?_
          · unfold nat
            rw [if_neg (by omega)]
            exact Int.le_trans hm3 (by decide +kernel)
          · unfold nat
            rw [if_neg (by omega)]
            exact Int.le_trans (show (k : Int) ≤ 1000 by omega) (by decide +kernel)
          have hMn : (m' * (k : Int)).toNat = m'.toNat * k := by
            obtain ⟨n, rfl⟩ : ∃ n : Nat, m' = (n : Int) := ⟨m'.toNat, by omega⟩
            rw [← Int.natCast_mul, Int.toNat_natCast, Int.toNat_natCast]
          have hrr : rep m'.toNat c = rep (m'.toNat * k) r := by rw [hrk, rep_rep]
          rw [hrr] at redW
          walk_at "gos"
          refine rep_sp (e5 _ _ h4) h5 (by omega) (root_red redW (Nat.mul_pos (by omega) hk)) hM0 (Int.le_trans hM1 hM2) gr_bb (by rw [mk_walk]; exact mk_bb hb) hb4 bb_mid fun v6 H6 e6 hv6 => ?_
          walk_at "gos"
          rw [hMn] at hv6
          refine ⟨v6, _, rfl, (hE.trans e4).trans (e5.trans e6), e6 _ _ (e5 _ _ hw4), ?_⟩
          rw [hrr]
          rcases hv6 with ⟨rfl, n, hex⟩ | ⟨p6, rfl, h6, hb6⟩
          · obtain ⟨pre, p, post, hn, hx⟩ := hex
            exact .inl ⟨rfl, far_core redW hn ⟨pre, p, post, hx⟩⟩
          · refine .inr ⟨p6, rfl, ?_, ?_⟩
            · rw [walk_append, walk_rep]; exact h6
            · rw [walk_append, walk_rep]; exact hb6
      · rintro σ' H5 ⟨v, z, rfl, e5, hw5, hv5⟩
        walk_at "gos"
        refine go_cut (PairC H a pw pc ps m' (walk t (w ++ rep m'.toNat c ++ w.reverse))) ?_ ?_
        · walk_at "gos"
          refine ⟨rfl, ?_⟩
          walk_at "gos"
          rcases hv5 with ⟨rfl, hex⟩ | ⟨p5, rfl, h5, hb5⟩
          · refine go_iteN (fun z => absurd rfl z) (fun _ => ?_)
            walk_at "gos"
            exact ⟨.non, z, rfl, e5, .inl ⟨rfl, hex⟩⟩
          · refine go_iteN (fun _ => ?_) (fun z => nomatch z)
            walk_at "gos"
            refine ⟨pw, _, rfl, SqL.of hw5, fun p7 n7 => ?_⟩
            walk_at "gos"
            rw [pl_rev]
            refine way_sp (mem_new n7 h5) upd_same (by rw [List.length_reverse]; exact hwl) (Int.le_trans gr_bb bb_bb3) (by rw [mk_walk]; exact mk_bb3 hb) hb5 bb3_half fun v8 H8 e8 hv8 => ?_
            walk_at "gos"
            refine ⟨v8, z, rfl, e5.trans ((Evl.Ex.new n7).trans e8), ?_⟩
            rcases hv8 with ⟨rfl, hex⟩ | ⟨p8, rfl, h8, hb8⟩
            · exact .inl ⟨rfl, far_back redW hex⟩
            · refine .inr ⟨p8, rfl, ?_⟩
              rw [walk_append]
              exact h8
        · rintro σ' H6 ⟨v, z, rfl, e6, hv6⟩
          walk_at "gos"
          refine ⟨rfl, ?_⟩
          refine ⟨_, rfl, ?_⟩
          rcases hv6 with ⟨rfl, hbig⟩ | ⟨p6, rfl, h6⟩
          · refine go_ite (fun _ => ?_) (fun z => absurd rfl z)
            walk_at "gos"
            exact q2 H6 hbig e6
          · refine go_ite (fun z => nomatch z) (fun _ => ?_)
            walk_at "gos"
            generalize walk t (w ++ rep m'.toNat c ++ w.reverse) = s at h6 q1 q2
            refine ⟨p6, s, rfl, h6, .inl fun p9 H9 n9 e9 h9 => ?_⟩
            walk_at "gos"
            refine go_leastT (n := nat s.1) (ns := [nat s.2.1, nat s.2.2]) (SqT.of h9) ?_
            have em : [nat s.2.1, nat s.2.2].foldl max (nat s.1) = max (max (nat s.1) (nat s.2.1)) (nat s.2.2) := rfl
            rw [em]
            walk_at "gos"
            refine go_ite (fun g1 => ?_) (fun g1 => ?_)
            · walk_at "gos"
              refine q2 H9 (Int.not_le.mp fun hle' => ?_) (e6.trans e9)
              obtain ⟨l1, l2, l3⟩ := big_le.mp hle'
              omega
            · walk_at "gos"
              exact q1 p6 H9 (big_le.mpr ⟨by omega, by omega, by omega⟩) (e6.trans e9) (e9 _ _ h6)
theorem ok_behind_pair (T : Top w K mg) : OkD P w K mg base 7 (He.ga K "behind_pair") ["numbers", "word", "times"] (sp_behind_pair K) := by
  obtain ⟨fd, F⟩ := T.f_behind_pair
  exact ⟨fd, fn_behind_pair T F, F.binds (ps := ["numbers", "word", "times"]) fun _ _ _ _ _ _ us hl => match us, hl with | [_, _, _], _ => rfl, F.kp⟩
end
end At

namespace At
open L2 PyProof.Rows PySem.Spec PySem
section
variable {base : Heap} {w : World} {K : PySem.W.Frag} {mg : Str → Option Value} {P : Program}
abbrev N_turned : List Str := ["standing", "turns", "numbers", "index", "word", "times"]
theorem sc_turned : FnScope N_turned ["standing", "turns"] (defScope s_turned) := ⟨rfl, rfl, rfl, by decide +kernel, rfl, by decide +kernel, by decide +kernel⟩
def sp_turned (K : PySem.W.Frag) : Sp := fun vs H Q _ => ∃ a l t row, vs = [.ref a, .ref l] ∧ StAt K H a t ∧ RowAt H l row ∧ RowOk row ∧ (∀ i, i ≤ row.length → big (rowWalk t (row.take i)) ≤ GR) ∧ ∀ p H', Ext H H' → StAt K H' p (rowWalk t row) → Q (.ref p) H'
theorem fn_turned (T : Top w K mg) {fd : FuncData} (F : Fun K "turned" "turned" s_turned (He.ga K "turned") fd) : FnOk P w K mg base CX0 8 (He.ga K "turned") fd ["standing", "turns"] (sp_turned K) := by
  obtain ⟨fd_check_standing, G_check_standing, b_check_standing, k_check_standing⟩ := ok_check_standing (P := P) (w := w) (base := base) T
  obtain ⟨fd_check_turns, G_check_turns, b_check_turns, k_check_turns⟩ := ok_check_turns (P := P) (w := w) (base := base) T
  obtain ⟨fd_Standing_numbers, G_Standing_numbers, b_Standing_numbers, k_Standing_numbers⟩ := ok_Standing_numbers (P := P) (w := w) (base := base) T
  obtain ⟨fd_behind_pair, G_behind_pair, b_behind_pair, k_behind_pair⟩ := ok_behind_pair (P := P) (w := w) (base := base) T
  obtain ⟨fd_Standing___init__, G_Standing___init__, b_Standing___init__, k_Standing___init__⟩ := ok_Standing___init__ (P := P) (w := w) (base := base) T
  refine F.ok sc_turned (fun vs H Q E h => ?hlen) (fun cdv A outer s H vs Q E hr h => ⟨_, (pss_cons (ps_expr (pe_call G_check_standing (hr.mono (by decide)) (by rfl) T.g_check_standing k_check_standing b_check_standing .nil pass0 (pa_cons (pv 0) pa_nil)))
    (pss_cons (ps_expr (pe_call G_check_turns (hr.mono (by decide)) (by rfl) T.g_check_turns k_check_turns b_check_turns .nil pass0 (pa_cons (pv 1) pa_nil)))
    (pss_cons (ps_set (i := 2) sc_turned.nd rfl (Or.inl rfl) (pe_prop (pv 0) T.c_Standing (propOk.of T.x_prop_Standing_numbers) G_Standing_numbers (hr.mono (by decide)) b_Standing_numbers .nil pass0 rfl))
    (pss_cons (ps_for PassesOwn.never rfl (pi_enumT (by rfl) T.b_enumerate (pa_cons (pv 1) pa_nil)) (pg_tup (by rfl) (pgs_cons (pg_name (i := 3) sc_turned.nd rfl (Or.inl rfl)) (pgs_cons (pg_tup (by rfl) (pgs_cons (pg_name (i := 4) sc_turned.nd rfl (Or.inl rfl)) (pgs_cons (pg_name (i := 5) sc_turned.nd rfl (Or.inl rfl)) pgs_nil))) pgs_nil))) (pss_cons (ps_set (i := 2) sc_turned.nd rfl (Or.inl rfl) (pe_call G_behind_pair (hr.mono (by decide)) (by rfl) T.g_behind_pair k_behind_pair b_behind_pair .nil pass0 (pa_cons (pv 2) (pa_cons (pv 4) (pa_cons (pv 5) pa_nil)))))
    (pss_one (ps_if (pt_cmpR op_isN (pv 2) pe_non (nomark _)) (pss_one ps_never) pss_nil))))
    (pss_one (ps_ret (pe_makeS T.m_Standing (plainR G_Standing___init__ b_Standing___init__) (hr.mono (by decide)) (by rfl) T.g_Standing pass0 (pv 2)))))))), ?hrd⟩)
  case hlen =>
    obtain ⟨a, l, t, row, rfl, _⟩ := h
    rfl
  case hrd =>
    obtain ⟨a, l, t, row, rfl, hs, hrow, hok, hbig, q⟩ := h
    walk_at "gos"
    refine ⟨a, t, rfl, hs, ?_⟩
    walk_at "gos"
    refine ⟨l, row, rfl, hrow, hok, fun H1 e1 => ?_⟩
    walk_at "gos"
    have hs1 := hs.ext e1
    obtain ⟨dx, n0, hi0, hn0⟩ := hs1
    refine ⟨a, dx, _, rfl, hi0, a, t, rfl, ⟨dx, n0, hi0, hn0⟩, fun n' hn' => ?_⟩
    walk_at "gos"
    obtain ⟨rs, hl, hrs⟩ := hrow.ext e1
    refine ⟨l, _, rfl, SqT.of hl, ?_⟩
    have elen : (rs.map V.ref).length = row.length := by rw [List.length_map, hrs.len]
    refine loop_enumT (fun i σ' H' => ∃ n y z u, σ' = [some (.ref a), some (.ref l), some (.ref n), y, z, u] ∧ Ext H1 H' ∧ H' n = some (.tup (tv (rowWalk t (row.take i))))) ⟨n', none, none, none, rfl, Evl.Ex.refl _, by rw [List.take_zero]; exact hn'⟩ (fun i σ' H' _ ⟨n, y, z, u, _, e, _⟩ => SqT.of (e _ _ hl)) ?_ ?_
    · rintro i x σ' H' T0 hx ⟨n, y, z, u, rfl, e, hn⟩ nT
      obtain ⟨r, pm, rfl, hr, hpm, hat⟩ := hrs.at_ hx
      have hi : i < row.length := (List.getElem?_eq_some_iff.mp hpm).1
      have hat' : H' r = some (.tup [.str (wd pm.1), .int pm.2]) := e _ _ hat
      obtain ⟨k1, k2, k3, k4⟩ := hok.2 pm (List.mem_of_getElem? hpm)
      have hb2 := hbig (i + 1) (by omega)
      rw [rowWalk_succ hpm] at hb2
      walk_at "gos"
      refine go_gTup (SqT.of upd_same) rfl ?_
      walk_at "gos"
      refine go_gTup (SqT.of (mem_new nT hat')) rfl ?_
      walk_at "gos"
      refine ⟨n, _, pm.1, pm.2, rfl, mem_new nT hn, by omega, hbig i (by omega), k3, k4, fun p H2 hb3 e2 h2 => ?_, fun H2 hb3 e2 => ?_⟩
      · walk_at "gos"
        refine ⟨rfl, ?_⟩
        walk_at "gos"
        refine go_ite (fun z => nomatch z) (fun _ => ?_)
        walk_at "gos"
        exact ⟨p, _, _, _, rfl, (ext_new e nT).trans e2, by rw [rowWalk_succ hpm]; exact h2⟩
      · exact absurd hb3 (Int.not_lt.mpr hb2)
    · rintro σ' H' ⟨n, y, z, u, rfl, e, hn⟩
      rw [elen, List.take_length] at hn
      have hb := hbig row.length (Nat.le_refl _)
      rw [List.take_length] at hb
      walk_at "gos"
      refine ⟨n, tv (rowWalk t row), rfl, .inl (SqT.of hn), fun x dx' nx nd hne => ?_⟩
      exact ⟨x, dx', rowWalk t row, H', rfl, upd_same, (Evl.Ex.new nd).mut nx, nx, hb, fun m H2 e2 h2 h3 => ⟨rfl, q x H2 (e1.trans (e.trans e2)) ⟨dx', m, h2, h3⟩⟩⟩
theorem ok_turned (T : Top w K mg) : OkD P w K mg base 8 (He.ga K "turned") ["standing", "turns"] (sp_turned K) := by
  obtain ⟨fd, F⟩ := T.f_turned
  exact ⟨fd, fn_turned T F, F.binds (ps := ["standing", "turns"]) fun _ _ _ _ _ _ us hl => match us, hl with | [_, _], _ => rfl, F.kp⟩
theorem okk_turned (T : Top w K mg) : ∃ fd, FnOk P w K mg base CX0 8 (He.ga K "turned") fd ["standing", "turns"] (sp_turned K) ∧ PySem.W.keepIn K (.ref (He.ga K "turned")) = true ∧ KBn K fd ["standing", "turns"] 0 ["turns", "standing"] (fun us ws => gSwap us ws) (fun vs zs => gSwap vs zs) := by
  obtain ⟨fd, F⟩ := T.f_turned
  exact ⟨fd, fn_turned T F, F.kp, kbn_of F 0 ["turns", "standing"] gSwap relSwap fun _ _ _ _ _ _ us ws l1 l2 => match us, ws, l1, l2 with | [], [_, _], _, _ => rfl⟩
theorem turned_one {K : PySem.W.Frag} {H : Hp} {Q : VK} {E : XK} {s1 q : Addr} {u : T3} {ps : List P3} {m : Int} (st : StAt K H s1 u) (hq : RowAt H q [(ps, m)]) (l1 : 1 ≤ ps.length) (l2 : ps.length ≤ 12) (m0 : 0 ≤ m) (m1 : m ≤ MT) (bu : big u ≤ GR) (bv : big (many m.toNat ps u) ≤ GR)
    (k : ∀ p H', Ext H H' → StAt K H' p (many m.toNat ps u) → Q (.ref p) H') : sp_turned K [.ref s1, .ref q] H Q E := by
  refine ⟨s1, q, u, [(ps, m)], rfl, st, hq, ⟨Nat.le_of_ble_eq_true rfl, fun pm hpm => ?_⟩, fun i hi => ?_, k⟩
  · rw [List.mem_singleton.mp hpm]
    exact ⟨l1, l2, m0, m1⟩
  · match i, hi with
    | 0, _ => exact bu
    | 1, _ => exact bv
end
end At

namespace At
open L2 PyProof.Rows PySem.Spec PySem
section
variable {base : Heap} {w : World} {K : PySem.W.Frag} {mg : Str → Option Value} {P : Program}
abbrev N__law_made : List Str := ["_law_told"]
theorem sc__law_made : FnScope N__law_made ["_law_told"] (defScope s__law_made) := ⟨rfl, rfl, rfl, by decide +kernel, rfl, by decide +kernel, by decide +kernel⟩
def sp__law_made (K : PySem.W.Frag) : Sp := fun vs H Q _ => ∃ a t, vs = [.ref a] ∧ H a = some (.tup (tv t)) ∧ big t ≤ GR ∧ ∀ p H', Ext H H' → StAt K H' p t → Q (.ref p) H'
theorem fn__law_made (T : Top w K mg) {fd : FuncData} (F : Fun K "_law_made" "_law_made" s__law_made (He.ga K "_law_made") fd) : FnOk P w K mg base CX0 6 (He.ga K "_law_made") fd ["_law_told"] (sp__law_made K) := by
  obtain ⟨fd_Standing___init__, G_Standing___init__, b_Standing___init__, k_Standing___init__⟩ := ok_Standing___init__ (P := P) (w := w) (base := base) T
  refine F.ok sc__law_made (fun vs H Q E h => ?hlen) (fun cdv A outer s H vs Q E hr h => ⟨_, (pss_one (ps_ret (pe_make T.m_Standing G_Standing___init__ (hr.mono (by decide)) (by rfl) T.g_Standing b_Standing___init__ .nil pass0 (pa_cons (pe_ix ix_tup (pv 0) pe_int (fun _ _ => rfl)) (pa_cons (pe_ix ix_tup (pv 0) pe_int (fun _ _ => rfl)) (pa_cons (pe_ix ix_tup (pv 0) pe_int (fun _ _ => rfl)) pa_nil)))))), ?hrd⟩)
  case hlen =>
    obtain ⟨a, t, rfl, _⟩ := h
    rfl
  case hrd =>
    obtain ⟨a, t, rfl, ha, hb, q⟩ := h
    walk_at "gos"
    refine go_rIxT (j := 0) (v := .int t.1) (SqT.of ha) (by rfl) ?_
    walk_at "gos"
    refine go_rIxT (j := 1) (v := .int t.2.1) (SqT.of ha) (by rfl) ?_
    walk_at "gos"
    refine go_rIxT (j := 2) (v := .int t.2.2) (SqT.of ha) (by rfl) ?_
    walk_at "gos"
    intro x dx nx nd hne
    exact ⟨x, dx, t, H, rfl, upd_same, (Evl.Ex.new nd).mut nx, nx, hb, fun m H2 e2 h2 h3 => ⟨rfl, q x H2 e2 ⟨dx, m, h2, h3⟩⟩⟩
theorem ok__law_made (T : Top w K mg) : OkD P w K mg base 6 (He.ga K "_law_made") ["_law_told"] (sp__law_made K) := by
  obtain ⟨fd, F⟩ := T.f__law_made
  exact ⟨fd, fn__law_made T F, F.binds (ps := ["_law_told"]) fun _ _ _ _ _ _ us hl => match us, hl with | [_], _ => rfl, F.kp⟩
end
end At

namespace At
open L2 PyProof.Rows PySem.Spec PySem
section
variable {base : Heap} {w : World} {K : PySem.W.Frag} {mg : Str → Option Value} {P : Program}
abbrev N__law_row : List Str := ["_law_cup_here", "_law_many", "_law_times_top", "_law_found", "_law_turn_here", "_law_word", "_law_spot"]
theorem sc__law_row : FnScope N__law_row ["_law_cup_here", "_law_many", "_law_times_top"] (defScope s__law_row) := ⟨rfl, rfl, rfl, by decide +kernel, rfl, by decide +kernel, by decide +kernel⟩
def sp__law_row (K : PySem.W.Frag) : Sp := fun vs H Q _ => ∃ c many tt, vs = [.ref c, .int many, .int tt] ∧ Cup H c ∧ 0 ≤ many ∧ many ≤ 100 ∧ 0 ≤ tt ∧ tt ≤ 1000 ∧ ∀ p row H', row.length ≤ many.toNat → (∀ pm ∈ row, 1 ≤ pm.1.length ∧ pm.1.length ≤ 4 ∧ 0 ≤ pm.2 ∧ pm.2 ≤ tt) → ExtC c H H' → Cup H' c → RowAt H' p row → Q (.ref p) H'
theorem fn__law_row (T : Top w K mg) {fd : FuncData} (F : Fun K "_law_row" "_law_row" s__law_row (He.ga K "_law_row") fd) : FnOk P w K mg base CX0 3 (He.ga K "_law_row") fd ["_law_cup_here", "_law_many", "_law_times_top"] (sp__law_row K) := by
  obtain ⟨fd__law_sip, G__law_sip, b__law_sip, k__law_sip⟩ := ok__law_sip (P := P) (w := w) (base := base) T
  obtain ⟨fd__law_pick, G__law_pick, b__law_pick, k__law_pick⟩ := ok__law_pick (P := P) (w := w) (base := base) T
  refine F.ok sc__law_row (fun vs H Q E h => ?hlen) (fun cdv A outer s H vs Q E hr h => ⟨_, (pss_cons (ps_set (i := 3) sc__law_row.nd rfl (Or.inl rfl) (pe_lst pa_nil))
    (pss_cons (ps_for PassesOwn.never rfl (pi_range1 (by rfl) T.b_range (pa_cons (pe_call G__law_sip (hr.mono (by decide)) (by rfl) T.g__law_sip k__law_sip b__law_sip .nil pass0 (pa_cons (pv 0) (pa_cons (pe_op op_add (pv 1) pe_int) pa_nil))) pa_nil)) (pg_name (i := 4) sc__law_row.nd rfl (Or.inl rfl)) (pss_cons (ps_set (i := 5) sc__law_row.nd rfl (Or.inl rfl) (pe_join pe_str (pe_lc (own := [("_law_spot", 6)]) (g := gName 6) (tt := tYes) (by rfl) sc__law_row.nd (pi_range1 (by rfl) T.b_range (pa_cons (pe_op op_add pe_int (pe_call G__law_sip (hr.mono (by decide)) (by rfl) T.g__law_sip k__law_sip b__law_sip .nil pass0 (pa_cons (pv 0) (pa_cons (pe_call G__law_pick (hr.mono (by decide)) (by rfl) T.g__law_pick k__law_pick b__law_pick .nil pass0 (pa_cons (pv 0) (pa_cons (pe_lst (pa_cons pe_int (pa_cons pe_int pa_nil))) pa_nil))) pa_nil)))) pa_nil)) (blkOk_by (own := [("_law_spot", 6)]) (N := N__law_row) (sc := defScope s__law_row) (by decide +kernel)) (fun _ _ _ _ _ => pg_name (i := 6) sc__law_row.nd rfl (Or.inl rfl)) (fun _ _ _ _ _ => pts_nil) (fun _ _ _ _ _ => (pe_call G__law_pick (hr.mono (by decide)) (by rfl) T.g__law_pick k__law_pick b__law_pick .nil pass0 (pa_cons (pv 0) (pa_cons (pe_lst (pa_cons pe_str (pa_cons pe_str (pa_cons pe_str pa_nil)))) pa_nil)))))))
    (pss_one (ps_expr (pe_bm PySem.F.plainAttrs_list PySem.F.slot_list_append PySem.F.type_list_append mt_append (pv 3) (pa_cons (pe_tup (pa_cons (pv 5) (pa_cons (pe_call G__law_sip (hr.mono (by decide)) (by rfl) T.g__law_sip k__law_sip b__law_sip .nil pass0 (pa_cons (pv 0) (pa_cons (pe_op op_add (pv 2) pe_int) pa_nil))) pa_nil))) pa_nil))))))
    (pss_one (ps_ret (pe_callTy call_tuple_of (by rfl) T.b_tuple (by decide +kernel) (pa_cons (pv 3) pa_nil)))))), ?hrd⟩)
  case hlen =>
    obtain ⟨c, many, tt, rfl, _⟩ := h
    rfl
  case hrd =>
    obtain ⟨c, many, tt, rfl, hc, m0, m1, t0, t1, q⟩ := h
    walk_at "gos"
    intro l nl
    walk_at "gos"
    refine ⟨c, many + 1, rfl, hc.new nl, by omega, Int.le_trans (show many + 1 ≤ 101 by omega) (by decide +kernel), fun n H1 n0 n1 e1 hc1 => ?_⟩
    walk_at "gos"
    (refine ⟨by omega, by omega, ?_⟩)
    have hlc : l ≠ c := ne_cup hc nl
    refine loop_range (fun i σ' H' => ∃ u1 u2 u3, σ' = [some (.ref c), some (.int many), some (.int tt), some (.ref l), u1, u2, u3] ∧ ExtC c H H' ∧ Cup H' c ∧ ∃ rs row, H' l = some (.lst (rs.map V.ref)) ∧ PairsAt H' rs row ∧ row.length = i ∧ ∀ pm ∈ row, 1 ≤ pm.1.length ∧ pm.1.length ≤ 4 ∧ 0 ≤ pm.2 ∧ pm.2 ≤ tt) ⟨_, _, _, rfl, (ExtC.new nl).trans e1, hc1, [], [], e1 _ _ hlc upd_same, trivial, rfl, fun _ h => by cases h⟩ ?_ ?_
    · rintro i σ' H' hi ⟨u1, u2, u3, rfl, e, hc', rs, row, hl, hrs, hi', hok⟩
      walk_at "gos"
      refine go_m1 ?_
      refine go_lc ?_
      walk_at "gos"
      intro l2 nl2
      walk_at "gos"
      refine ⟨c, l2, _, rfl, hc'.new nl2, upd_same, ne_cup hc' nl2, Nat.succ_pos _, Nat.le_of_ble_eq_true rfl, fun x H2 hx e2 hc2 => ?_⟩
      obtain ⟨k, rfl, k0, k4⟩ : ∃ k : Int, x = .int k ∧ 1 ≤ k ∧ k ≤ 4 := by
        (simp only [List.mem_cons, List.not_mem_nil, or_false] at hx)
        rcases hx with rfl | rfl <;> exact ⟨_, rfl, by decide, by decide⟩
      walk_at "gos"
      refine ⟨c, k, rfl, hc2, by omega, Int.le_trans k4 (by decide +kernel), fun n2 H3 a0 a1 e3 hc3 => ?_⟩
      walk_at "gos"
      (refine ⟨by omega, by omega, ?_⟩)
      intro D2 nD2
      have hDc : D2 ≠ c := ne_cup hc3 nD2
      have eB : ExtC c H' H3 := ((ExtC.new nl2).trans e2).trans e3
      refine lc_it (walk_range (lo := 0)) (fun i H' => ∃ pss : List P3, pss.length = i ∧ ExtC c H3 H' ∧ Cup H' c ∧ H' D2 = some (.lst (pss.map fun s => V.str (wd [s])))) ⟨[], rfl, ExtC.new nD2, hc3.new nD2, upd_same⟩ (fun _ _ _ _ => trivial) (fun i x H' H'' hi pv y => ?_) fun H4 pv => ?_
      · obtain ⟨pss, hl, e6, hc6, hD2⟩ := pv
        obtain ⟨rfl, rfl⟩ := y
        walk_at "gos"
        refine ⟨rfl, ?_⟩
        refine go_yes ?_
        walk_at "gos"
        intro l3 nl3
        walk_at "gos"
        refine ⟨c, l3, _, rfl, hc6.new nl3, upd_same, ne_cup hc6 nl3, Nat.succ_pos _, Nat.le_of_ble_eq_true rfl, fun x H7 hx7 e7 hc7 => ?_⟩
        obtain ⟨s, rfl⟩ := abc_of hx7
        refine ⟨_, e7 D2 _ hDc (mem_new nl3 hD2), by rw [List.length_map, hl, sizeLine_eq]; omega, pss ++ [s], by rw [List.length_append, hl]; rfl, ExtC.mut ((e6.trans (ExtC.new nl3)).trans e7) nD2, hc7.past hDc, ?_⟩
        rw [upd_same, List.map_append]
        rfl
      · obtain ⟨pss, hl2, e6, hc6, hD2⟩ := pv
        have hl4 : 1 ≤ pss.length ∧ pss.length ≤ 4 := by omega
        have hJ : H4 D2 = some (.lst ((pss.map fun s => [s]).map fun ps => V.str (wd ps))) := by
          rw [hD2, List.map_map]
          rfl
        obtain ⟨a', p', ys, f1, f2, f3, f4, f5⟩ := join_is K hJ (by rw [List.length_map]; omega) (fun ps hps => by
          obtain ⟨s, _, rfl⟩ := List.mem_map.mp hps
          exact Nat.le_of_ble_eq_true rfl)
        refine ⟨a', p', ys, f1, f2, f3, f4, ?_⟩
        rw [f5, ones]
        have eC := eB.trans e6
        have hl4' := eC l _ hlc hl
        walk_at "gos"
        refine go_app rfl hl4' ?_
        walk_at "gos"
        refine ⟨c, tt + 1, rfl, hc6, by omega, Int.le_trans (show tt + 1 ≤ 1001 by omega) (by decide +kernel), fun n5 H5 b0 b1 e5 hc5 => ?_⟩
        walk_at "gos"
        intro p np
        have hl5 := mem_new (u := .tup [.str (wd pss), .int n5]) np (e5 l _ hlc hl4')
        have eD := ((eC.trans e5).trans (ExtC.new (o := .tup [.str (wd pss), .int n5]) np))
        have hrs5 := eD.pairs hc' hrs
        refine appk hl5 (by rw [List.length_map, hrs.len]; omega) ?_
        walk_at "gos"
        refine ⟨_, _, _, rfl, ExtC.mut (e.trans eD) nl, (hc5.new np).past hlc, rs ++ [p], row ++ [(pss, n5)], ?_, (PairsAt.snoc (r := p) (pm := (pss, n5)) (show PairAt _ _ _ from upd_same) hrs5).past hl5, by rw [List.length_append, hi']; rfl, fun pm hpm => ?_⟩
        · rw [upd_same, List.map_append]
          rfl
        · rcases List.mem_append.mp hpm with h | h
          · exact hok pm h
          · rw [List.mem_singleton.mp h]
            exact ⟨hl4.1, hl4.2, b0, by show n5 ≤ tt; omega⟩
    · rintro σ' H' ⟨u1, u2, u3, rfl, e, hc', rs, row, hl, hrs, hi', hok⟩
      walk_at "gos"
      refine ⟨l, _, rfl, .inl ⟨SqL.of hl, fun p np => ?_⟩⟩
      exact q p row _ (by omega) hok (e.trans (ExtC.new np)) (hc'.new np) ⟨rs, upd_same, hrs.ext (Evl.Ex.new np)⟩
theorem ok__law_row (T : Top w K mg) : OkD P w K mg base 3 (He.ga K "_law_row") ["_law_cup_here", "_law_many", "_law_times_top"] (sp__law_row K) := by
  obtain ⟨fd, F⟩ := T.f__law_row
  exact ⟨fd, fn__law_row T F, F.binds (ps := ["_law_cup_here", "_law_many", "_law_times_top"]) fun _ _ _ _ _ _ us hl => match us, hl with | [_, _, _], _ => rfl, F.kp⟩
end
end At

namespace At
open L2 PyProof.Rows PySem.Spec PySem
section
variable {base : Heap} {w : World} {K : PySem.W.Frag} {mg : Str → Option Value} {P : Program}
abbrev N_Standing___eq__ : List Str := ["self", "other"]
theorem sc_Standing___eq__ : FnScope N_Standing___eq__ ["self", "other"] (defScope s_Standing___eq__) := ⟨rfl, rfl, rfl, by decide +kernel, rfl, by decide +kernel, by decide +kernel⟩
def sp_Standing___eq__ (K : PySem.W.Frag) : Sp := fun vs H Q _ => ∃ a b t, vs = [.ref a, .ref b] ∧ StAt K H a t ∧ ((∃ u, StAt K H b u ∧ Q (.bl (decide (t = u))) H) ∨ ∃ xs, H b = some (.tup xs) ∧ Q (.bl false) H)
theorem fn_Standing___eq__ (T : Top w K mg) {fd : FuncData} (F : Fun K "__eq__" "Standing.__eq__" s_Standing___eq__ (method K "Standing" "__eq__") fd) : FnOk P w K mg base CX0 1 (method K "Standing" "__eq__") fd ["self", "other"] (sp_Standing___eq__ K) := by
  refine F.ok sc_Standing___eq__ (fun vs H Q E h => ?hlen) (fun cdv A outer s H vs Q E hr h => ⟨_, (pss_one (ps_ret (pe_and (pe_callB call_isi (by rfl) T.b_isinstance (by decide +kernel) (pa_cons (pv 1) (pa_cons (pe_glob (v := .ref _) rfl T.g_Standing rfl) pa_nil))) (pe_one (pe_cmpR (op_eqD (hu64 hr)) (pe_fld (pv 0) rfl) (pe_fld (pv 1) rfl) (nomark _)))))), ?hrd⟩)
  case hlen =>
    obtain ⟨a, b, t, rfl, _⟩ := h
    rfl
  case hrd =>
    obtain ⟨a, b, t, rfl, ⟨dx, n, ha, hn⟩, q⟩ := h
    walk_at "gos"
    rcases q with ⟨u, ⟨dy, m, hb, hm⟩, q⟩ | ⟨xs, hb, q⟩
    · refine go_isO T.x_is_Standing T.c_Standing hb ?_
      walk_at "gos"
      refine ⟨a, _, dx, _, _, rfl, ha, T.c_Standing, T.na_Standing_numbers, rfl, ?_⟩
      walk_at "gos"
      refine ⟨b, _, dy, _, _, rfl, hb, T.c_Standing, T.na_Standing_numbers, rfl, ?_⟩
      walk_at "gos"
      refine go_eq3 hn hm ?_
      exact q
    · refine go_isNo T.x_is_Standing hb ?_
      walk_at "gos"
      exact q
theorem ok_Standing___eq__ (T : Top w K mg) : OkD P w K mg base 1 (method K "Standing" "__eq__") ["self", "other"] (sp_Standing___eq__ K) := by
  obtain ⟨fd, F⟩ := T.f_Standing___eq__
  exact ⟨fd, fn_Standing___eq__ T F, F.binds (ps := ["self", "other"]) fun _ _ _ _ _ _ us hl => match us, hl with | [_, _], _ => rfl, F.kp⟩
end
end At

namespace At
open L2 PyProof.Rows PySem.Spec PySem
section
variable {base : Heap} {w : World} {K : PySem.W.Frag} {mg : Str → Option Value} {P : Program}
abbrev N__law_right : List Str := ["_law_cup_here", "_law_turn_here", "_law_told", "_law_before", "_law_some", "_law_first", "_law_last", "_law_word", "_law_many", "_law_more_here", "_law_whole", "_law_shifted"]
theorem sc__law_right : FnScope N__law_right ["_law_cup_here"] (defScope s__law_right) := ⟨rfl, rfl, rfl, by decide +kernel, rfl, by decide +kernel, by decide +kernel⟩
def sp__law_right (K : PySem.W.Frag) : Sp := fun vs H Q _ => ∃ c, vs = [.ref c] ∧ Cup H c ∧ ∀ H', ExtC c H H' → Cup H' c → Q (.bl true) H'
theorem go_catRow {K : PySem.W.Frag} {H : Hp} {Q : VK} {a b : Addr} {r s : Row} (ha : RowAt H a r) (hb : RowAt H b s) (hl : r.length + s.length ≤ 1000) (k : ∀ p H', Ext H H' → RowAt H' p (r ++ s) → Q (.ref p) H') : rCatA K (.ref a) (.ref b) H Q := by
  obtain ⟨rs, h1, h2⟩ := ha
  obtain ⟨ss, g1, g2⟩ := hb
  have lr := h2.len
  have ls := g2.len
  refine ⟨a, b, _, _, rfl, rfl, SqT.of h1, SqT.of g1, by rw [List.length_map, List.length_map, sizeLine_eq]; omega, fun e => ?_, fun e f => ?_, fun e f p np => ?_⟩
  · have e0 : rs = [] := List.map_eq_nil_iff.mp e
    rw [e0] at lr
    have : r = [] := List.length_eq_zero_iff.mp lr.symm
    subst this
    exact k b H (Evl.Ex.refl _) ⟨ss, g1, g2⟩
  · have e0 : ss = [] := List.map_eq_nil_iff.mp f
    rw [e0] at ls
    have : s = [] := List.length_eq_zero_iff.mp ls.symm
    subst this
    exact k a H (Evl.Ex.refl _) ⟨rs, h1, by rw [List.append_nil]; exact h2⟩
  · exact k p _ (Evl.Ex.new np) ⟨rs ++ ss, by rw [upd_same, List.map_append], (PairsAt.app h2 g2).ext (Evl.Ex.new np)⟩
theorem fn__law_right (T : Top w K mg) {fd : FuncData} (F : Fun K "_law_right" "_law_right" s__law_right (He.ga K "_law_right") fd) : FnOk P w K mg base CX0 9 (He.ga K "_law_right") fd ["_law_cup_here"] (sp__law_right K) := by
  obtain ⟨fd__law_spread, G__law_spread, b__law_spread, k__law_spread⟩ := ok__law_spread (P := P) (w := w) (base := base) T
  obtain ⟨fd__law_row, G__law_row, b__law_row, k__law_row⟩ := ok__law_row (P := P) (w := w) (base := base) T
  obtain ⟨fd__law_made, G__law_made, b__law_made, k__law_made⟩ := ok__law_made (P := P) (w := w) (base := base) T
  obtain ⟨fd_length, G_length, b_length, k_length⟩ := ok_length (P := P) (w := w) (base := base) T
  obtain ⟨fd_Standing___eq__, G_Standing___eq__, b_Standing___eq__, k_Standing___eq__⟩ := ok_Standing___eq__ (P := P) (w := w) (base := base) T
  obtain ⟨fd_turned, G_turned, b_turned, k_turned⟩ := ok_turned (P := P) (w := w) (base := base) T
  obtain ⟨fd__law_small, G__law_small, b__law_small, k__law_small⟩ := ok__law_small (P := P) (w := w) (base := base) T
  obtain ⟨fd__law_pick, G__law_pick, b__law_pick, k__law_pick⟩ := ok__law_pick (P := P) (w := w) (base := base) T
  obtain ⟨fd__law_sip, G__law_sip, b__law_sip, k__law_sip⟩ := ok__law_sip (P := P) (w := w) (base := base) T
  refine F.ok sc__law_right (fun vs H Q E h => ?hlen) (fun cdv A outer s H vs Q E hr h => ⟨_, (pss_cons (ps_for PassesOwn.never rfl (pi_range1 (by rfl) T.b_range (pa_cons pe_int pa_nil)) (pg_name (i := 1) sc__law_right.nd rfl (Or.inl rfl)) (pss_cons (ps_asg (pe_call G__law_spread (hr.mono (by decide)) (by rfl) T.g__law_spread k__law_spread b__law_spread .nil pass0 (pa_cons (pv 0) (pa_cons pe_int (pa_cons pe_int pa_nil)))) (pg_tup (by rfl) (pgs_cons (pg_name (i := 2) sc__law_right.nd rfl (Or.inl rfl)) (pgs_cons (pg_name (i := 3) sc__law_right.nd rfl (Or.inl rfl)) pgs_nil))))
    (pss_cons (ps_par3 (i := 4) (j := 5) (l := 6) (by rfl) sc__law_right.nd rfl rfl rfl (by decide) (by decide) (by decide) rfl rfl rfl (pa_cons (pe_call G__law_made (hr.mono (by decide)) (by rfl) T.g__law_made k__law_made b__law_made .nil pass0 (pa_cons (pv 2) pa_nil)) (pa_cons (pe_call G__law_row (hr.mono (by decide)) (by rfl) T.g__law_row k__law_row b__law_row .nil pass0 (pa_cons (pv 0) (pa_cons pe_int (pa_cons pe_int pa_nil)))) (pa_cons (pe_call G__law_row (hr.mono (by decide)) (by rfl) T.g__law_row k__law_row b__law_row .nil pass0 (pa_cons (pv 0) (pa_cons pe_int (pa_cons pe_int pa_nil)))) pa_nil))) (by rfl))
    (pss_cons (ps_if (PW.pt (pw_or (pt_cmpR (op_neO (eqOk.of T.x_eq_Standing) (plainR G_Standing___eq__ b_Standing___eq__) (hr.mono (by decide)) pass0) (pe_call G_turned (hr.mono (by decide)) (by rfl) T.g_turned k_turned b_turned .nil pass0 (pa_cons (pe_call G_turned (hr.mono (by decide)) (by rfl) T.g_turned k_turned b_turned .nil pass0 (pa_cons (pv 4) (pa_cons (pv 5) pa_nil))) (pa_cons (pv 6) pa_nil))) (pe_call G_turned (hr.mono (by decide)) (by rfl) T.g_turned k_turned b_turned .nil pass0 (pa_cons (pv 4) (pa_cons (pe_op op_catA (pv 5) (pv 6)) pa_nil))) (nomark _)) (pw_or1 (pt_cmpR op_ne (pe_call G_length (hr.mono (by decide)) (by rfl) T.g_length k_length b_length .nil pass0 (pa_cons (pe_op op_catA (pv 5) (pv 6)) pa_nil)) (pe_op op_add (pe_call G_length (hr.mono (by decide)) (by rfl) T.g_length k_length b_length .nil pass0 (pa_cons (pv 5) pa_nil)) (pe_call G_length (hr.mono (by decide)) (by rfl) T.g_length k_length b_length .nil pass0 (pa_cons (pv 6) pa_nil))) (nomark _))))) (pss_one (ps_ret pe_bl)) pss_nil)
    (pss_cons (ps_asg (pe_call G__law_small (hr.mono (by decide)) (by rfl) T.g__law_small k__law_small b__law_small .nil pass0 (pa_cons (pv 0) pa_nil)) (pg_tup (by rfl) (pgs_cons (pg_name (i := 2) sc__law_right.nd rfl (Or.inl rfl)) (pgs_cons (pg_name (i := 7) sc__law_right.nd rfl (Or.inl rfl)) pgs_nil))))
    (pss_cons (ps_par3 (i := 4) (j := 8) (l := 9) (by rfl) sc__law_right.nd rfl rfl rfl (by decide) (by decide) (by decide) rfl rfl rfl (pa_cons (pe_call G__law_made (hr.mono (by decide)) (by rfl) T.g__law_made k__law_made b__law_made .nil pass0 (pa_cons (pv 2) pa_nil)) (pa_cons (pe_call G__law_sip (hr.mono (by decide)) (by rfl) T.g__law_sip k__law_sip b__law_sip .nil pass0 (pa_cons (pv 0) (pa_cons (pe_op op_pow pe_int pe_int) pa_nil))) (pa_cons (pe_call G__law_pick (hr.mono (by decide)) (by rfl) T.g__law_pick k__law_pick b__law_pick .nil pass0 (pa_cons (pv 0) (pa_cons (pe_lst (pa_cons pe_int (pa_cons pe_int (pa_cons pe_int (pa_cons (pe_op op_pow pe_int pe_int) pa_nil))))) pa_nil))) pa_nil))) (by rfl))
    (pss_cons (ps_set (i := 10) sc__law_right.nd rfl (Or.inl rfl) (pe_call G_turned (hr.mono (by decide)) (by rfl) T.g_turned k_turned b_turned .nil pass0 (pa_cons (pv 4) (pa_cons (pe_tup (pa_cons (pe_tup (pa_cons (pv 7) (pa_cons (pe_op op_add (pv 8) (pv 9)) pa_nil))) pa_nil)) pa_nil))))
    (pss_cons (ps_if (PW.pt (pw_or (pt_cmpR (op_neO (eqOk.of T.x_eq_Standing) (plainR G_Standing___eq__ b_Standing___eq__) (hr.mono (by decide)) pass0) (pe_call G_turned (hr.mono (by decide)) (by rfl) T.g_turned k_turned b_turned .nil pass0 (pa_cons (pv 4) (pa_cons (pe_tup (pa_cons (pe_tup (pa_cons (pv 7) (pa_cons (pv 8) pa_nil))) (pa_cons (pe_tup (pa_cons (pv 7) (pa_cons (pv 9) pa_nil))) pa_nil))) pa_nil))) (pv 10) (nomark _)) (pw_or1 (pt_cmpR (op_neO (eqOk.of T.x_eq_Standing) (plainR G_Standing___eq__ b_Standing___eq__) (hr.mono (by decide)) pass0) (pe_call G_turned (hr.mono (by decide)) (by rfl) T.g_turned k_turned b_turned .nil pass0 (pa_cons (pe_call G_turned (hr.mono (by decide)) (by rfl) T.g_turned k_turned b_turned .nil pass0 (pa_cons (pv 4) (pa_cons (pe_tup (pa_cons (pe_tup (pa_cons (pv 7) (pa_cons (pv 8) pa_nil))) pa_nil)) pa_nil))) (pa_cons (pe_tup (pa_cons (pe_tup (pa_cons (pv 7) (pa_cons (pv 9) pa_nil))) pa_nil)) pa_nil))) (pv 10) (nomark _))))) (pss_one (ps_ret pe_bl)) pss_nil)
    (pss_cons (ps_if (pt_cmpR (op_neO (eqOk.of T.x_eq_Standing) (plainR G_Standing___eq__ b_Standing___eq__) (hr.mono (by decide)) pass0) (pe_call G_turned (hr.mono (by decide)) (by rfl) T.g_turned k_turned b_turned .nil pass0 (pa_cons (pv 4) (pa_cons (pe_tup (pa_cons (pe_tup (pa_cons (pe_op op_add_str (pv 7) (pv 7)) (pa_cons (pv 8) pa_nil))) pa_nil)) pa_nil))) (pe_call G_turned (hr.mono (by decide)) (by rfl) T.g_turned k_turned b_turned .nil pass0 (pa_cons (pv 4) (pa_cons (pe_tup (pa_cons (pe_tup (pa_cons (pv 7) (pa_cons (pe_op op_mul pe_int (pv 8)) pa_nil))) pa_nil)) pa_nil))) (nomark _)) (pss_one (ps_ret pe_bl)) pss_nil)
    (pss_cons (ps_set (i := 11) sc__law_right.nd rfl (Or.inl rfl) (pe_op op_add_str (pe_slice sl_str (pv 7) (po_some pe_int) po_none) (pe_ix ix_str (pv 7) pe_int (fun _ _ => rfl))))
    (pss_cons (ps_if (pt_cmpR (op_neO (eqOk.of T.x_eq_Standing) (plainR G_Standing___eq__ b_Standing___eq__) (hr.mono (by decide)) pass0) (pe_call G_turned (hr.mono (by decide)) (by rfl) T.g_turned k_turned b_turned .nil pass0 (pa_cons (pv 4) (pa_cons (pe_tup (pa_cons (pe_tup (pa_cons (pe_ix ix_str (pv 7) pe_int (fun _ _ => rfl)) (pa_cons pe_int pa_nil))) (pa_cons (pe_tup (pa_cons (pv 11) (pa_cons (pv 8) pa_nil))) pa_nil))) pa_nil))) (pe_call G_turned (hr.mono (by decide)) (by rfl) T.g_turned k_turned b_turned .nil pass0 (pa_cons (pv 4) (pa_cons (pe_tup (pa_cons (pe_tup (pa_cons (pv 7) (pa_cons (pv 8) pa_nil))) (pa_cons (pe_tup (pa_cons (pe_ix ix_str (pv 7) pe_int (fun _ _ => rfl)) (pa_cons pe_int pa_nil))) pa_nil))) pa_nil))) (nomark _)) (pss_one (ps_ret pe_bl)) pss_nil)
    (pss_cons (ps_if (pt_cmpR (op_neO (eqOk.of T.x_eq_Standing) (plainR G_Standing___eq__ b_Standing___eq__) (hr.mono (by decide)) pass0) (pe_call G_turned (hr.mono (by decide)) (by rfl) T.g_turned k_turned b_turned .nil pass0 (pa_cons (pv 10) (pa_cons (pe_tup (pa_cons (pe_tup (pa_cons (pe_back back_str (pv 7)) (pa_cons (pe_op op_add (pv 8) (pv 9)) pa_nil))) pa_nil)) pa_nil))) (pv 4) (nomark _)) (pss_one (ps_ret pe_bl)) pss_nil)
    (pss_one (ps_if (pt_cmpR op_ne (pe_call G_length (hr.mono (by decide)) (by rfl) T.g_length k_length b_length .nil pass0 (pa_cons (pe_tup (pa_cons (pe_tup (pa_cons (pv 7) (pa_cons (pv 8) pa_nil))) (pa_cons (pe_tup (pa_cons (pe_op op_add_str (pv 7) (pv 7)) (pa_cons (pv 9) pa_nil))) pa_nil))) pa_nil)) (pe_op op_mulW (pe_callB call_len_str (by rfl) T.b_len PySem.boot_len (pa_cons (pv 7) pa_nil)) (pe_op op_add (pv 8) (pe_op op_mul pe_int (pv 9)))) (nomark _)) (pss_one (ps_ret pe_bl)) pss_nil))))))))))))))
    (pss_one (ps_ret pe_bl))), ?hrd⟩)
  case hlen =>
    obtain ⟨c, rfl, _⟩ := h
    rfl
  case hrd =>
    obtain ⟨c, rfl, hc, q⟩ := h
    walk_at "gos"
    refine ⟨by decide, by decide, ?_⟩
    refine loop_range (fun i σ' H' => ∃ u1 u2 u3 u4 u5 u6 u7 u8 u9 u10 u11, σ' = [some (.ref c), u1, u2, u3, u4, u5, u6, u7, u8, u9, u10, u11] ∧ ExtC c H H' ∧ Cup H' c) ⟨_, _, _, _, _, _, _, _, _, _, _, rfl, ExtC.refl _ _, hc⟩ ?_ ?_
    · rintro i σ' H' hi ⟨u1, u2, u3, u4, u5, u6, u7, u8, u9, u10, u11, rfl, e, hc1⟩
      walk_at "gos"
      refine ⟨c, 4, 1, rfl, hc1, by decide, by decide +kernel, by decide, by decide, fun p a b t ps H3 fit hlen e3 hc3 ha hb hp => ?_⟩
      obtain ⟨u, hu⟩ : ∃ u, walk t ps = u := ⟨_, rfl⟩
      have fu : FitG 4 (0 + ps.length) u := by rw [← hu]; exact FitG.walk (by decide) ps fit
      have hlen : ps.length ≤ 1 := hlen
      rw [hu] at ha
      have small : ∀ L : List P3, L.length ≤ 9 → big (walk u L) ≤ GR := fun L hL => Int.le_trans ((FitG.walk (by decide) L fu).le (by decide) (show (4 : Int) ≤ 6 by decide) (n := 10) (by omega)) bg6
      have bu : big u ≤ GR := small [] (by decide)
      walk_at "gos"
      refine go_gTup (xs := [.ref a, .ref b]) (SqT.of hp) rfl ?_
      walk_at "gos"
      refine ⟨a, u, rfl, ha, bu, fun s1 H4 e4 st1 => ?_⟩
      walk_at "gos"
      refine ⟨c, 1, 1, rfl, hc3.ext e4, by decide, by decide, by decide, by decide, fun r1 row1 H5 hl1 hok1 e5 hc5 hrow1 => ?_⟩
      walk_at "gos"
      refine ⟨c, 1, 1, rfl, hc5, by decide, by decide, by decide, by decide, fun r2 row2 H6 hl2 hok2 e6 hc6 hrow2 => ?_⟩
      have hl1 : row1.length ≤ 1 := hl1
      have hl2 : row2.length ≤ 1 := hl2
      have row1' := e6.row hc5 hrow1
      have st6 := e6.st hc5 (e5.st (hc3.ext e4) st1)
      have f4 : ∀ row : Row, (∀ pm ∈ row, 1 ≤ pm.1.length ∧ pm.1.length ≤ 4 ∧ 0 ≤ pm.2 ∧ pm.2 ≤ 1) → (rowFlat row).length ≤ row.length * 4 := fun row h => flat_len row fun pm hpm => by
        obtain ⟨_, x, _, y⟩ := h pm hpm
        have := Nat.mul_le_mul x (show pm.2.toNat ≤ 1 by omega)
        omega
      have l1 := f4 row1 hok1
      have l2 := f4 row2 hok2
      have up : ∀ row : Row, (∀ pm ∈ row, 1 ≤ pm.1.length ∧ pm.1.length ≤ 4 ∧ 0 ≤ pm.2 ∧ pm.2 ≤ 1) → ∀ pm ∈ row, 1 ≤ pm.1.length ∧ pm.1.length ≤ 4 ∧ 0 ≤ pm.2 ∧ pm.2 ≤ 2 := fun row h pm hpm => by
        have := h pm hpm
        omega
      have rok1 := rowOk_small (by omega) (up row1 hok1)
      have rok2 := rowOk_small (by omega) (up row2 hok2)
      have rok12 : RowOk (row1 ++ row2) := rowOk_small (by rw [List.length_append]; omega) fun pm hpm => (List.mem_append.mp hpm).elim (up row1 hok1 pm) (up row2 hok2 pm)
      have big1 : ∀ j, j ≤ row1.length → big (rowWalk u (row1.take j)) ≤ GR := fun j _ => row_parts (P := fun t => big t ≤ GR) (fun j _ => small _ (by rw [List.length_take]; omega)) j
      have big12 : ∀ j, j ≤ (row1 ++ row2).length → big (rowWalk u ((row1 ++ row2).take j)) ≤ GR := fun j _ => row_parts (P := fun t => big t ≤ GR) (fun j _ => small _ (by rw [List.length_take, rowFlat_app, List.length_append]; omega)) j
      have big2' : ∀ j, j ≤ row2.length → big (rowWalk (rowWalk u row1) (row2.take j)) ≤ GR := fun j hj => by
        have := big12 (row1.length + j) (by rw [List.length_append]; omega)
        rw [List.take_length_add_append, rowWalk_app] at this
        exact this
      walk_at "gos"
      refine ⟨s1, r1, u, row1, rfl, st6, row1', rok1, big1, fun s2 H7 e7 st2 => ?_⟩
      walk_at "gos"
      refine ⟨s2, r2, rowWalk u row1, row2, rfl, st2, hrow2.ext e7, rok2, big2', fun s3 H8 e8 st3 => ?_⟩
      walk_at "gos"
      refine go_catRow (row1'.ext (e7.trans e8)) (hrow2.ext (e7.trans e8)) (by omega) fun r3 H9 e9 hrow12 => ?_
      walk_at "gos"
      have st9 := st6.ext ((e7.trans e8).trans e9)
      refine ⟨s1, r3, u, row1 ++ row2, rfl, st9, hrow12, rok12, big12, fun s4 H10 e10 st4 => ?_⟩
      rw [rowWalk_app] at st4
      have st310 := st3.ext (e9.trans e10)
      obtain ⟨dx3, n3, i3, hn3⟩ := id st310
      obtain ⟨dx4, n4, i4, hn4⟩ := id st4
      refine go_ownEq i3 (isOk.ty T.x_is_Standing T.c_Standing i4) (same_first _) ?_
      refine ⟨s3, s4, _, rfl, st310, .inl ⟨_, st4, _, rfl, ?_⟩⟩
      rw [decide_eq_true (rfl : rowWalk (rowWalk u row1) row2 = rowWalk (rowWalk u row1) row2), show (true ^^ true) = false from rfl]
      have e610 : Ext H6 H10 := ((e7.trans e8).trans e9).trans e10
      walk_at "gos"
      refine go_catRow (row1'.ext e610) (hrow2.ext e610) (by omega) fun r4 H11 e11 hrow11 => ?_
      walk_at "gos"
      refine ⟨r4, row1 ++ row2, rfl, hrow11, rok12, fun H12 e12 => ?_⟩
      walk_at "gos"
      refine ⟨r1, row1, rfl, row1'.ext ((e610.trans e11).trans e12), rok1, fun H13 e13 => ?_⟩
      walk_at "gos"
      refine ⟨r2, row2, rfl, hrow2.ext (((e610.trans e11).trans e12).trans e13), rok2, fun H14 e14 => ?_⟩
      walk_at "gos"
      rw [rowLen_app, decide_eq_true rfl]
      have e614 : Ext H6 H14 := (((e610.trans e11).trans e12).trans e13).trans e14
      have hc14 := hc6.ext e614
      have eA : ExtC c H H14 := ((((e.trans e3).trans (ExtC.of e4)).trans e5).trans e6).trans (ExtC.of e614)
      walk_at "gos"
      refine ⟨c, rfl, hc14, fun p2 a2 t w H15 sml e15 hc15 ha2 hp2 => ?_⟩
      walk_at "gos"
      refine go_gTup (xs := [.ref a2, .str (wd w)]) (SqT.of hp2) rfl ?_
      walk_at "gos"
      have wl := sml.two
      have bt : big t ≤ GR := small_gr (sml.big 0 (by decide))
      refine ⟨a2, t, rfl, ha2, bt, fun s5 H16 e16 st5 => ?_⟩
      have hc16 := hc15.ext e16
      walk_at "gos"
      refine ⟨c, 10 ^ (30 : Int).toNat, rfl, hc16, by decide +kernel, by decide +kernel, fun m H17 m0 m1 e17 hc17 => ?_⟩
      have m1 : m < 10 ^ 30 := m1
      walk_at "gos"
      intro l nl
      walk_at "gos"
      refine ⟨c, l, _, rfl, hc17.new nl, upd_same, ne_cup hc17 nl, Nat.succ_pos _, Nat.le_of_ble_eq_true rfl, fun x H18 hx e18 hc18 => ?_⟩
      obtain ⟨r, rfl, r0, r1'⟩ : ∃ r : Int, x = .int r ∧ 0 ≤ r ∧ r ≤ 10 ^ 29 := by
        (simp only [List.mem_cons, List.not_mem_nil, or_false] at hx)
        rcases hx with rfl | rfl | rfl | rfl
        · exact ⟨_, rfl, by decide, by decide⟩
        · exact ⟨_, rfl, by decide, by decide⟩
        · exact ⟨_, rfl, by decide, by decide⟩
        · exact ⟨_, rfl, by decide +kernel, by decide +kernel⟩
      have e1618 : ExtC c H16 H18 := e17.trans ((ExtC.new nl).trans e18)
      have st18 := e1618.st hc16 st5
      have mt : ∀ v : Int, v ≤ 4 * 10 ^ 30 → v ≤ MT := fun v hv => Int.le_trans hv (by decide +kernel)
      have bm : ∀ v : Int, 0 ≤ v → v ≤ 4 * 10 ^ 30 → big (many v.toNat w t) ≤ 10 ^ 32 := fun v h0 h1 => sml.big v.toNat (by omega)
      obtain ⟨y, hy⟩ : ∃ y, many (m + r).toNat w t = y := ⟨_, rfl⟩
      have by_ : big y ≤ GR := by rw [← hy]; exact small_gr (bm _ (by omega) (by omega))
      walk_at "gos"
      intro q1 nq1
      walk_at "gos"
      intro q2 nq2
      walk_at "gos"
      have ex1 : Ext H18 (upd (upd H18 q1 (.tup [.str (wd w), .int (m + r)])) q2 (.tup [.ref q1])) := ext_new (Evl.Ex.new nq1) nq2
      refine turned_one (ps := w) (m := m + r) (st18.ext ex1) ⟨[q1], upd_same, ⟨mem_new nq2 upd_same, trivial⟩⟩ wl.1 (by omega) (by omega) (mt _ (by omega)) bt (by rw [hy]; exact by_) fun s6 H19 e19 st6' => ?_
      rw [hy] at st6'
      have st19 := (st18.ext ex1).ext e19
      have madd : many r.toNat w (many m.toNat w t) = y := by
        rw [← hy, ← many_add]
        congr 1
        omega
      have okm : PairOk (w, m) := ⟨wl.1, by show w.length ≤ 12; omega, m0, mt _ (by show m ≤ _; omega)⟩
      have okr : PairOk (w, r) := ⟨wl.1, by show w.length ≤ 12; omega, r0, mt _ (by show r ≤ _; omega)⟩
      have bmm := small_gr (bm m m0 (by omega))
      walk_at "gos"
      intro q3 nq3
      walk_at "gos"
      intro q4 nq4
      walk_at "gos"
      intro q5 nq5
      walk_at "gos"
      have ex2 : Ext H19 (upd (upd (upd H19 q3 (.tup [.str (wd w), .int m])) q4 (.tup [.str (wd w), .int r])) q5 (.tup [.ref q3, .ref q4])) := ext_new (ext_new (Evl.Ex.new nq3) nq4) nq5
      refine ⟨s5, q5, t, [(w, m), (w, r)], rfl, st19.ext ex2, ⟨[q3, q4], upd_same, mem_new nq5 (mem_new nq4 upd_same), mem_new nq5 upd_same, trivial⟩, ok2 okm okr, big2 bt bmm (by rw [madd]; exact by_), fun s7 H20 e20 st7 => ?_⟩
      rw [rowWalk2, madd] at st7
      have st620 := st6'.ext (ex2.trans e20)
      obtain ⟨dx7, n7, i7, hn7⟩ := id st7
      obtain ⟨dx6, n6, i6, hn6⟩ := id st620
      walk_at "gos"
      refine go_ownEq i7 (isOk.ty T.x_is_Standing T.c_Standing i6) (same_first _) ?_
      refine ⟨s7, s6, _, rfl, st7, .inl ⟨_, st620, _, rfl, ?_⟩⟩
      rw [decide_eq_true (rfl : y = y), show (true ^^ true) = false from rfl]
      have st20 := (st19.ext ex2).ext e20
      walk_at "gos"
      intro q6 nq6
      walk_at "gos"
      intro q7 nq7
      walk_at "gos"
      have ex3 : Ext H20 (upd (upd H20 q6 (.tup [.str (wd w), .int m])) q7 (.tup [.ref q6])) := ext_new (Evl.Ex.new nq6) nq7
      refine turned_one (ps := w) (m := m) (st20.ext ex3) ⟨[q6], upd_same, ⟨mem_new nq7 upd_same, trivial⟩⟩ wl.1 (by omega) m0 (mt _ (by omega)) bt bmm fun s8 H21 e21 st8 => ?_
      walk_at "gos"
      intro q8 nq8
      walk_at "gos"
      intro q9 nq9
      walk_at "gos"
      have ex4 : Ext H21 (upd (upd H21 q8 (.tup [.str (wd w), .int r])) q9 (.tup [.ref q8])) := ext_new (Evl.Ex.new nq8) nq9
      refine turned_one (u := many m.toNat w t) (ps := w) (m := r) (st8.ext ex4) ⟨[q8], upd_same, ⟨mem_new nq9 upd_same, trivial⟩⟩ wl.1 (by omega) r0 (mt _ (by omega)) bmm (by rw [madd]; exact by_) fun s9 H22 e22 st9 => ?_
      rw [madd] at st9
      have e2022 : Ext H20 H22 := (ex3.trans e21).trans (ex4.trans e22)
      have st622 := st620.ext e2022
      have st22 := st20.ext e2022
      obtain ⟨dx9, n9, i9, hn9⟩ := id st9
      obtain ⟨dx62, n62, i62, hn62⟩ := id st622
      walk_at "gos"
      refine go_ownEq i9 (isOk.ty T.x_is_Standing T.c_Standing i62) (same_first _) ?_
      refine ⟨s9, s6, _, rfl, st9, .inl ⟨_, st622, _, rfl, ?_⟩⟩
      rw [decide_eq_true (rfl : y = y), show (true ^^ true) = false from rfl]
      walk_at "gos"
      refine ⟨adds (by omega), ?_⟩
      rw [app_wd]
      walk_at "gos"
      intro q10 nq10
      walk_at "gos"
      intro q11 nq11
      walk_at "gos"
      have ex5 : Ext H22 (upd (upd H22 q10 (.tup [.str (wd (w ++ w)), .int m])) q11 (.tup [.ref q10])) := ext_new (Evl.Ex.new nq10) nq11
      have m2 : (2 * m).toNat = 2 * m.toNat := by omega
      have b2m : big (many (2 * m.toNat) w t) ≤ GR := by rw [← m2]; exact small_gr (bm _ (by omega) (by omega))
      refine turned_one (ps := w ++ w) (m := m) (st22.ext ex5) ⟨[q10], upd_same, ⟨mem_new nq11 upd_same, trivial⟩⟩ (by rw [List.length_append]; omega) (by rw [List.length_append]; omega) m0 (mt _ (by omega)) bt (by rw [many_twice]; exact b2m) fun s10 H23 e23 st10 => ?_
      rw [many_twice] at st10
      have st23 := (st22.ext ex5).ext e23
      walk_at "gos"
      intro q12 nq12
      walk_at "gos"
      intro q13 nq13
      walk_at "gos"
      have ex6 : Ext H23 (upd (upd H23 q12 (.tup [.str (wd w), .int (2 * m)])) q13 (.tup [.ref q12])) := ext_new (Evl.Ex.new nq12) nq13
      refine turned_one (ps := w) (m := 2 * m) (st23.ext ex6) ⟨[q12], upd_same, ⟨mem_new nq13 upd_same, trivial⟩⟩ wl.1 (by omega) (by omega) (mt _ (by omega)) bt (by rw [m2]; exact b2m) fun s11 H24 e24 st11 => ?_
      rw [m2] at st11
      have st24 := (st23.ext ex6).ext e24
      have st1024 := st10.ext (ex6.trans e24)
      obtain ⟨dx10, n10, i10, hn10⟩ := id st1024
      obtain ⟨dx11, n11, i11, hn11⟩ := id st11
      refine go_ownEq i10 (isOk.ty T.x_is_Standing T.c_Standing i11) (same_first _) ?_
      refine ⟨s10, s11, _, rfl, st1024, .inl ⟨_, st11, _, rfl, ?_⟩⟩
      rw [decide_eq_true (rfl : many (2 * m.toNat) w t = many (2 * m.toNat) w t), show (true ^^ true) = false from rfl]
      walk_at "gos"
      obtain ⟨p0, w2, rfl⟩ : ∃ p0 w2, w = p0 :: w2 := by
        cases w with
        | nil => exact absurd wl.1 (by decide)
        | cons p0 w2 => exact ⟨p0, w2, rfl⟩
      have lw : w2.length ≤ 2 := by have := wl.2; rw [List.length_cons] at this; omega
      have lw1 : (p0 :: w2).length ≤ 60000 := by omega
      refine ⟨_, rfl, le60 lw1, ?_⟩
      rw [cut_tail]
      walk_at "gos"
      refine ⟨_, 0, _, rfl, rfl, le60 lw1, first_of p0 w2, ?_⟩
      walk_at "gos"
      refine ⟨adds (qs := [p0]) (by show w2.length + 1 ≤ 1000; omega), ?_⟩
      rw [show (wd w2 ++ (⟨#[p0.ch]⟩ : Str)) = wd (w2 ++ [p0]) from app_wd w2 [p0]]
      walk_at "gos"
      refine ⟨_, 0, _, rfl, rfl, le60 lw1, first_of p0 w2, ?_⟩
      walk_at "gos"
      intro q14 nq14
      walk_at "gos"
      intro q15 nq15
      walk_at "gos"
      intro q16 nq16
      walk_at "gos"
      have ex7 : Ext H24 (upd (upd (upd H24 q14 (.tup [.str (wd [p0]), .int 1])) q15 (.tup [.str (wd (w2 ++ [p0])), .int m])) q16 (.tup [.ref q14, .ref q15])) := ext_new (ext_new (Evl.Ex.new nq14) nq15) nq16
      have ok1 : PairOk ([p0], 1) := ⟨Nat.le_of_ble_eq_true rfl, Nat.le_of_ble_eq_true rfl, (show (0 : Int) ≤ 1 by decide), mt 1 (by decide)⟩
      have oks : PairOk (w2 ++ [p0], m) := ⟨by show 1 ≤ (w2 ++ [p0]).length; rw [List.length_append]; show 1 ≤ w2.length + 1; omega, by show (w2 ++ [p0]).length ≤ 12; rw [List.length_append]; show w2.length + 1 ≤ 12; omega, m0, mt _ (by show m ≤ _; omega)⟩
      have eT : many m.toNat (w2 ++ [p0]) (many (1 : Int).toNat [p0] t) = turn p0 (many m.toNat (p0 :: w2) t) := many_turn p0 w2 m.toNat t
      have b1 : big (many (1 : Int).toNat [p0] t) ≤ GR := small_turn p0 (sml.big 0 (by decide))
      have bT : big (turn p0 (many m.toNat (p0 :: w2) t)) ≤ GR := small_turn p0 (bm m m0 (by omega))
      refine ⟨s5, q16, t, [([p0], 1), (w2 ++ [p0], m)], rfl, st24.ext ex7, ⟨[q14, q15], upd_same, mem_new nq16 (mem_new nq15 upd_same), mem_new nq16 upd_same, trivial⟩, ok2 ok1 oks, big2 bt b1 (by rw [eT]; exact bT), fun s12 H25 e25 st12 => ?_⟩
      rw [rowWalk2, eT] at st12
      have st25 := (st24.ext ex7).ext e25
      walk_at "gos"
      intro q17 nq17
      walk_at "gos"
      refine ⟨_, 0, _, rfl, rfl, le60 lw1, first_of p0 w2, ?_⟩
      walk_at "gos"
      intro q18 nq18
      walk_at "gos"
      intro q19 nq19
      walk_at "gos"
      have ex8 : Ext H25 (upd (upd (upd H25 q17 (.tup [.str (wd (p0 :: w2)), .int m])) q18 (.tup [.str (wd [p0]), .int 1])) q19 (.tup [.ref q17, .ref q18])) := ext_new (ext_new (Evl.Ex.new nq17) nq18) nq19
      have eU : many (1 : Int).toNat [p0] (many m.toNat (p0 :: w2) t) = turn p0 (many m.toNat (p0 :: w2) t) := rfl
      refine ⟨s5, q19, t, [(p0 :: w2, m), ([p0], 1)], rfl, st25.ext ex8, ⟨[q17, q18], upd_same, mem_new nq19 (mem_new nq18 upd_same), mem_new nq19 upd_same, trivial⟩, ok2 okm ok1, big2 bt bmm (by rw [eU]; exact bT), fun s13 H26 e26 st13 => ?_⟩
      rw [rowWalk2, eU] at st13
      have st26 := (st25.ext ex8).ext e26
      have st1226 := st12.ext (ex8.trans e26)
      obtain ⟨dx12, n12, i12, hn12⟩ := id st1226
      obtain ⟨dx13, n13, i13, hn13⟩ := id st13
      refine go_ownEq i12 (isOk.ty T.x_is_Standing T.c_Standing i13) (same_first _) ?_
      refine ⟨s12, s13, _, rfl, st1226, .inl ⟨_, st13, _, rfl, ?_⟩⟩
      rw [decide_eq_true (rfl : turn p0 (many m.toNat (p0 :: w2) t) = turn p0 (many m.toNat (p0 :: w2) t)), show (true ^^ true) = false from rfl]
      have e2226 : Ext H22 H26 := ((ex5.trans e23).trans (ex6.trans e24)).trans ((ex7.trans e25).trans (ex8.trans e26))
      have st626 := st622.ext e2226
      walk_at "gos"
      refine ⟨_, rfl, le60 lw1, ?_⟩
      rw [rev_wd]
      walk_at "gos"
      intro q20 nq20
      walk_at "gos"
      intro q21 nq21
      walk_at "gos"
      have ex9 : Ext H26 (upd (upd H26 q20 (.tup [.str (wd (p0 :: w2).reverse), .int (m + r)])) q21 (.tup [.ref q20])) := ext_new (Evl.Ex.new nq20) nq21
      have eB : many (m + r).toNat (p0 :: w2).reverse y = t := by rw [← hy]; exact many_back _ _ _
      refine turned_one (u := y) (ps := (p0 :: w2).reverse) (m := m + r) (st626.ext ex9) ⟨[q20], upd_same, ⟨mem_new nq21 upd_same, trivial⟩⟩ (by rw [List.length_reverse]; exact wl.1) (by rw [List.length_reverse]; omega) (by omega) (mt _ (by omega)) by_ (by rw [eB]; exact bt) fun s14 H27 e27 st14 => ?_
      rw [eB] at st14
      have st27 := (st26.ext ex9).ext e27
      obtain ⟨dx14, n14, i14, hn14⟩ := id st14
      obtain ⟨dx27, n27, i27, hn27⟩ := id st27
      walk_at "gos"
      refine go_ownEq i14 (isOk.ty T.x_is_Standing T.c_Standing i27) (same_first _) ?_
      refine ⟨s14, s5, _, rfl, st14, .inl ⟨_, st27, _, rfl, ?_⟩⟩
      rw [decide_eq_true (rfl : t = t), show (true ^^ true) = false from rfl]
      walk_at "gos"
      intro q22 nq22
      walk_at "gos"
      refine ⟨adds (by omega), ?_⟩
      rw [app_wd]
      walk_at "gos"
      intro q23 nq23
      walk_at "gos"
      intro q24 nq24
      walk_at "gos"
      have ex10 : Ext H27 (upd (upd (upd H27 q22 (.tup [.str (wd (p0 :: w2)), .int m])) q23 (.tup [.str (wd (p0 :: w2 ++ p0 :: w2)), .int r])) q24 (.tup [.ref q22, .ref q23])) := ext_new (ext_new (Evl.Ex.new nq22) nq23) nq24
      have okd : PairOk (p0 :: w2 ++ p0 :: w2, r) := ⟨by show 1 ≤ (p0 :: w2 ++ p0 :: w2).length; rw [List.length_append]; omega, by show (p0 :: w2 ++ p0 :: w2).length ≤ 12; rw [List.length_append]; omega, r0, mt _ (by show r ≤ _; omega)⟩
      refine ⟨q24, [(p0 :: w2, m), (p0 :: w2 ++ p0 :: w2, r)], rfl, ⟨[q22, q23], upd_same, mem_new nq24 (mem_new nq23 upd_same), mem_new nq24 upd_same, trivial⟩, ok2 okm okd, fun H28 e28 => ?_⟩
      walk_at "gos"
      refine ⟨le60 lw1, ?_⟩
      walk_at "gos"
      have hwl : ((wd (p0 :: w2)).length : Int) = ((p0 :: w2).length : Int) := congrArg Nat.cast (wd_size _)
      rw [hwl]
      refine go_rI (mul_ok (B := HUGE) (Int.le_refl _) ?_ ?_) ?_
      · unfold nat
        rw [if_neg (by omega)]
        exact Int.le_trans (show ((p0 :: w2).length : Int) ≤ 3 by omega) (by decide +kernel)
      · unfold nat
        rw [if_neg (by omega)]
        exact Int.le_trans (show m + 2 * r ≤ 4 * 10 ^ 30 by omega) (by decide +kernel)
      have eL : rowLen [(p0 :: w2, m), (p0 :: w2 ++ p0 :: w2, r)] = ((p0 :: w2).length : Int) * (m + 2 * r) := by
        show ((p0 :: w2).length : Int) * m + (((p0 :: w2 ++ p0 :: w2).length : Int) * r + 0) = _
        rw [List.length_append, Int.natCast_add, Int.add_mul, Int.mul_add, Int.mul_left_comm]
        generalize ((p0 :: w2).length : Int) * m = x
        generalize ((p0 :: w2).length : Int) * r = z
        omega
      walk_at "gos"
      rw [eL, decide_eq_true rfl]
      walk_at "gos"
      have eZ : ExtC c H14 H28 := ((e15.trans (ExtC.of e16)).trans e1618).trans (ExtC.of ((ex1.trans e19).trans ((ex2.trans e20).trans (e2022.trans (e2226.trans ((ex9.trans e27).trans (ex10.trans e28)))))))
      have hcZ := hc18.ext ((ex1.trans e19).trans ((ex2.trans e20).trans (e2022.trans (e2226.trans ((ex9.trans e27).trans (ex10.trans e28))))))
      first | exact ⟨eA.trans eZ, hcZ⟩ | exact ⟨_, _, _, _, _, _, _, _, _, _, _, rfl, eA.trans eZ, hcZ⟩
    · rintro σ' H' ⟨u1, u2, u3, u4, u5, u6, u7, u8, u9, u10, u11, rfl, e, hc1⟩
      walk_at "gos"
      exact q H' e hc1
theorem ok__law_right (T : Top w K mg) : OkD P w K mg base 9 (He.ga K "_law_right") ["_law_cup_here"] (sp__law_right K) := by
  obtain ⟨fd, F⟩ := T.f__law_right
  exact ⟨fd, fn__law_right T F, F.binds (ps := ["_law_cup_here"]) fun _ _ _ _ _ _ us hl => match us, hl with | [_], _ => rfl, F.kp⟩
end
end At

namespace At
open L2 PyProof.Rows PySem.Spec PySem
section
variable {base : Heap} {w : World} {K : PySem.W.Frag} {mg : Str → Option Value} {P : Program}
abbrev N__law_cup : List Str := ["_law_script", "_law_spot", "_law_cell", "_law_one"]
theorem sc__law_cup : FnScope N__law_cup ["_law_script", "_law_spot"] (defScope s__law_cup) := ⟨rfl, rfl, rfl, by decide +kernel, rfl, by decide +kernel, by decide +kernel⟩
def sp__law_cup (K : PySem.W.Frag) : Sp := fun vs H Q _ => ∃ (a : Addr) (ns : List Int) (spot : Int), vs = [.ref a, .int spot] ∧ SqL K H a (ns.map .int) ∧ 0 ≤ spot ∧ spot ≤ 63 ∧ ns.length ≤ 63 ∧ ∀ p H', H p = none → Ext H H' → Cup H' p → Q (.ref p) H'
theorem e_back {H G : Hp} {p : Addr} (e : Ext H G) (n : G p = none) : H p = none := Evl.fresh_back e n
theorem cut_mem {xs : List V} {l u : Option Int} {x : V} (h : x ∈ cutV xs l u) : x ∈ xs := by
  unfold cutV at h
  exact List.mem_of_mem_drop (List.mem_of_mem_take h)
theorem fn__law_cup (T : Top w K mg) {fd : FuncData} (F : Fun K "_law_cup" "_law_cup" s__law_cup (He.ga K "_law_cup") fd) : FnOk P w K mg base CX0 1 (He.ga K "_law_cup") fd ["_law_script", "_law_spot"] (sp__law_cup K) := by
  refine F.ok sc__law_cup (fun vs H Q E h => ?hlen) (fun cdv A outer s H vs Q E hr h => ⟨_, (pss_cons (ps_set (i := 2) sc__law_cup.nd rfl (Or.inl rfl) (pe_ifExp (pt_cmpR op_lt (pv 1) (pe_callB call_len_seq (by rfl) T.b_len PySem.boot_len (pa_cons (pv 0) pa_nil)) (nomark _)) (pe_ix ix_list (pv 0) (pv 1) (fun _ _ => rfl)) (pe_op op_add (pe_op op_mul pe_int (pv 1)) pe_int)))
    (pss_cons (ps_for PassesOwn.never rfl (pi_list (pe_ifExp (pt_cmpR op_ge (pv 1) (pe_callB call_len_seq (by rfl) T.b_len PySem.boot_len (pa_cons (pv 0) pa_nil)) (nomark _)) (pe_slice sl_list (pv 0) po_none (po_some pe_int)) (pe_lst pa_nil))) (pg_name (i := 3) sc__law_cup.nd rfl (Or.inl rfl)) (pss_one (ps_set (i := 2) sc__law_cup.nd rfl (Or.inl rfl) (pe_op op_modN (pe_callTy call_int1 (by rfl) T.b_int (by decide +kernel) (pa_cons (pe_op op_add (pe_op op_mul (pv 2) pe_int) (pv 3)) pa_nil)) pe_int))))
    (pss_one (ps_ret (pe_lst (pa_cons (pe_op op_modN (pe_callTy call_int1 (by rfl) T.b_int (by decide +kernel) (pa_cons (pe_op op_add (pe_op op_add (pe_op op_mul (pv 2) pe_int) (pe_op op_mul pe_int (pv 1))) pe_int) pa_nil)) pe_int) (pa_cons (pe_ifExp (PW.pt (pw_or (pt_cmpR op_lt (pv 2) pe_int (nomark _)) (pw_or1 (pt_cmpR op_ge (pv 2) (pe_op op_pow pe_int pe_int) (nomark _))))) (pe_callB call_abs (by rfl) T.b_abs (by decide +kernel) (pa_cons (pv 2) pa_nil)) pe_int) pa_nil))))))), ?hrd⟩)
  case hlen =>
    obtain ⟨a, ns, spot, rfl, _⟩ := h
    rfl
  case hrd =>
    obtain ⟨a, ns, spot, rfl, hq, s0, s1, hl, q⟩ := h
    have el : (ns.map V.int).length = ns.length := List.length_map ..
    walk_at "gos"
    refine ⟨_, _, rfl, .inl hq, ?_⟩
    walk_at "gos"
    refine go_ite (fun c1 => ?_) (fun c1 => ?_)
    · rw [el] at c1
      obtain ⟨k, rfl⟩ : ∃ k : Nat, spot = (k : Int) := ⟨spot.toNat, by omega⟩
      have hk : k < ns.length := by omega
      walk_at "gos"
      refine go_rIxL (v := .int ns[k]) hq (atI_nat (j := k) (by rw [List.getElem?_map, List.getElem?_eq_getElem hk]; rfl)) ?_
      walk_at "gos"
      refine ⟨_, _, rfl, .inl hq, ?_⟩
      walk_at "gos"
      refine go_ite (fun z => absurd z (by rw [el]; omega)) (fun _ => ?_)
      walk_at "gos"
      intro l nl
      refine ⟨l, rfl, ⟨_, SqL.of upd_same⟩, ?_⟩
      refine loop_list (xs := ([] : List V)) (fun (i : Nat) (σ' : L2.St) (H' : Hp) => ∃ (cell : Int) (y : Option V), σ' = [some (.ref a), some (.int (k : Int)), some (.int cell), y] ∧ Ext H H' ∧ H' l = some (.lst [])) ⟨_, none, rfl, Evl.Ex.new nl, upd_same⟩ (fun i σ' H' _ pv => by
        obtain ⟨_, _, _, _, h⟩ := pv
        exact SqL.of h) (fun i x σ' H' hx => by simp at hx) ?_
      rintro σ' H' ⟨cell, y, rfl, e, _⟩
      walk_at "gos"
      refine .inl ⟨_, rfl, ?_⟩
      walk_at "gos"
      obtain ⟨y0, y1⟩ := mixed (cell * 4093 + 269 * (k : Int) + 19)
      refine go_ite (fun c2 => ?_) (fun c2 => ?_)
      · walk_at "gos"
        intro p np
        refine q p _ (e_back e np) (ext_new e np) ⟨_, _, upd_same, y0, y1, ?_⟩
        split <;> omega
      · walk_at "gos"
        refine go_ite (fun c3 => ?_) (fun c3 => ?_)
        · walk_at "gos"
          intro p np
          refine q p _ (e_back e np) (ext_new e np) ⟨_, _, upd_same, y0, y1, ?_⟩
          split <;> omega
        · walk_at "gos"
          intro p np
          exact q p _ (e_back e np) (ext_new e np) ⟨_, _, upd_same, y0, y1, Int.le_refl _⟩
    · rw [el] at c1
      walk_at "gos"
      refine ⟨_, _, rfl, .inl hq, ?_⟩
      walk_at "gos"
      refine go_ite (fun _ => ?_) (fun z => absurd (show (((ns.map V.int).length : Nat) : Int) ≤ spot by rw [el]; omega) z)
      walk_at "gos"
      refine ⟨_, _, rfl, hq, fun l nl => ?_⟩
      refine ⟨l, rfl, ⟨_, SqL.of upd_same⟩, ?_⟩
      refine loop_list (xs := cutV (ns.map V.int) none (some 2)) (fun i σ' H' => ∃ (cell : Int) (y : Option V), σ' = [some (.ref a), some (.int spot), some (.int cell), y] ∧ Ext H H' ∧ H' l = some (.lst (cutV (ns.map V.int) none (some 2)))) ⟨_, none, rfl, Evl.Ex.new nl, upd_same⟩ (fun i σ' H' _ pv => by
        obtain ⟨_, _, _, _, h⟩ := pv
        exact SqL.of h) (fun i x σ' H' hx pv => ?_) ?_
      · obtain ⟨cell, y, rfl, e, h⟩ := pv
        obtain ⟨one, _, rfl⟩ := List.mem_map.mp (cut_mem (List.mem_of_getElem? hx))
        walk_at "gos"
        refine .inl ⟨_, rfl, ?_⟩
        walk_at "gos"
        first | exact ⟨e, h⟩ | exact ⟨_, _, rfl, e, h⟩
      rintro σ' H' ⟨cell, y, rfl, e, _⟩
      walk_at "gos"
      refine .inl ⟨_, rfl, ?_⟩
      walk_at "gos"
      obtain ⟨y0, y1⟩ := mixed (cell * 4093 + 269 * spot + 19)
      refine go_ite (fun c2 => ?_) (fun c2 => ?_)
      · walk_at "gos"
        intro p np
        refine q p _ (e_back e np) (ext_new e np) ⟨_, _, upd_same, y0, y1, ?_⟩
        split <;> omega
      · walk_at "gos"
        refine go_ite (fun c3 => ?_) (fun c3 => ?_)
        · walk_at "gos"
          intro p np
          refine q p _ (e_back e np) (ext_new e np) ⟨_, _, upd_same, y0, y1, ?_⟩
          split <;> omega
        · walk_at "gos"
          intro p np
          exact q p _ (e_back e np) (ext_new e np) ⟨_, _, upd_same, y0, y1, Int.le_refl _⟩
theorem ok__law_cup (T : Top w K mg) : OkD P w K mg base 1 (He.ga K "_law_cup") ["_law_script", "_law_spot"] (sp__law_cup K) := by
  obtain ⟨fd, F⟩ := T.f__law_cup
  exact ⟨fd, fn__law_cup T F, F.binds (ps := ["_law_script", "_law_spot"]) fun _ _ _ _ _ _ us hl => match us, hl with | [_, _], _ => rfl, F.kp⟩
end
end At

namespace At
open L2 PyProof.Rows PySem.Spec PySem
section
variable {base : Heap} {w : World} {K : PySem.W.Frag} {mg : Str → Option Value} {P : Program}
abbrev N_law : List Str := ["_law_script", "_law_spot"]
theorem sc_law : FnScope N_law ["_law_script"] (defScope s_law) := ⟨rfl, rfl, rfl, by decide +kernel, rfl, by decide +kernel, by decide +kernel⟩
def sp_law (K : PySem.W.Frag) : Sp := fun vs H Q _ => ∃ (a : Addr) (ns : List Int), vs = [.ref a] ∧ SqL K H a (ns.map .int) ∧ ns.length ≤ 63 ∧ ∀ H', Q (.bl true) H'
theorem len_two (n : Int) : rowLen [([.a, .b, .c], 0), ([.a], n)] = n := by
  show (3 : Int) * 0 + (1 * n + 0) = n
  omega
theorem ten30 : (10 : Int) ^ (30 : Int).toNat ≤ MT := by decide +kernel
theorem ten30p : (0 : Int) ≤ (10 : Int) ^ (30 : Int).toNat := by decide +kernel
theorem gn_law (T : Top w K mg) : FnG P w K mg base 10 (He.ga K "law") (sp_law K) := by
  obtain ⟨fd_length, G_length, b_length, k_length⟩ := ok_length (P := P) (w := w) (base := base) T
  obtain ⟨fd__law_right, G__law_right, b__law_right, k__law_right⟩ := ok__law_right (P := P) (w := w) (base := base) T
  obtain ⟨fd__law_cup, G__law_cup, b__law_cup, k__law_cup⟩ := ok__law_cup (P := P) (w := w) (base := base) T
  obtain ⟨fd, F⟩ := T.f_law
  refine okG F sc_law (fun vs H Q E h => ?hlen) (fun _ _ _ _ _ _ us hl => match us, hl with | [_], _ => rfl) (fun cdv A outer s H vs Q E quiet hr h => ⟨_, (pss_cons (ps_if (PW.pt (pw_or (pt_cmpR op_ne (pe_call G_length (hr.mono (by decide)) (by rfl) T.g_length k_length b_length .nil pass0 (pa_cons (pe_tup pa_nil) pa_nil)) pe_int (nomark _)) (pw_or1 (pt_cmpR op_ne (pe_call G_length (hr.mono (by decide)) (by rfl) T.g_length k_length b_length .nil pass0 (pa_cons (pe_tup (pa_cons (pe_tup (pa_cons pe_str (pa_cons pe_int pa_nil))) (pa_cons (pe_tup (pa_cons pe_str (pa_cons (pe_op op_pow pe_int pe_int) pa_nil))) pa_nil))) pa_nil)) (pe_op op_pow pe_int pe_int) (nomark _))))) (pss_one (ps_ret pe_bl)) pss_nil)
    (pss_one (ps_ret (pe_callB (cr_all rfl) (by rfl) T.b_all (by decide +kernel) (pa_cons (pe_lc (own := [("_law_spot", 1)]) (g := gName 1) (tt := tYes) (by rfl) sc_law.nd (pi_range1 (by rfl) T.b_range (pa_cons (pe_callB (call_max2 rfl) (by rfl) T.b_max (by decide +kernel) (pa_cons pe_int (pa_cons (pe_callB (call_min2 rfl) (by rfl) T.b_min (by decide +kernel) (pa_cons (pe_callB call_len_seq (by rfl) T.b_len PySem.boot_len (pa_cons (pv 0) pa_nil)) (pa_cons pe_int pa_nil))) pa_nil))) pa_nil)) (blkOk_by (own := [("_law_spot", 1)]) (N := N_law) (sc := defScope s_law) (by decide +kernel)) (fun _ _ _ _ _ => pg_name (i := 1) sc_law.nd rfl (Or.inl rfl)) (fun _ _ _ _ _ => pts_nil) (fun _ _ _ _ _ => (pe_call G__law_right (hr.mono (by decide)) (by rfl) T.g__law_right k__law_right b__law_right .nil pass0 (pa_cons (pe_call G__law_cup (hr.mono (by decide)) (by rfl) T.g__law_cup k__law_cup b__law_cup .nil pass0 (pa_cons (pv 0) (pa_cons (pv 1) pa_nil))) pa_nil)))) pa_nil))))), ?hrd⟩)
  case hlen =>
    obtain ⟨a, ns, rfl, _⟩ := h
    rfl
  case hrd =>
    obtain ⟨a, ns, rfl, hq, hl, q⟩ := h
    walk_at "gos"
    intro p0 np0
    walk_at "gos"
    refine ⟨p0, [], rfl, ⟨[], upd_same, trivial⟩, ⟨by decide, fun pm hpm => by cases hpm⟩, fun H1 e1 => ?_⟩
    walk_at "gos"
    rw [show rowLen [] = 0 from rfl, decide_eq_true rfl]
    walk_at "gos"
    intro p1 np1
    walk_at "gos"
    intro p2 np2
    walk_at "gos"
    intro p3 np3
    walk_at "gos"
    refine ⟨p3, [([.a, .b, .c], 0), ([.a], 10 ^ (30 : Int).toNat)], rfl, ⟨[p1, p2], upd_same, mem_new np3 (mem_new np2 upd_same), mem_new np3 upd_same, trivial⟩, ok2 ⟨by decide, by decide, (show (0 : Int) ≤ 0 by decide), (show (0 : Int) ≤ MT by decide +kernel)⟩ ⟨by show 1 ≤ 1; omega, by show 1 ≤ 12; omega, ten30p, ten30⟩, fun H2 e2 => ?_⟩
    walk_at "gos"
    rw [len_two, decide_eq_true rfl]
    walk_at "gos"
    have e58 : Ext H H2 := (ext_new (o := .tup [.ref p1, .ref p2]) (ext_new (o := .tup [.str (wd [.a]), .int (10 ^ (30 : Int).toNat)]) (ext_new (o := .tup [.str (wd [.a, .b, .c]), .int 0]) ((Evl.Ex.new np0).trans e1) np1) np2) np3).trans e2
    refine go_lc ?_
    walk_at "gos"
    have hq8 := sqL_ext hq e58
    have el : (ns.map V.int).length = ns.length := List.length_map ..
    refine ⟨_, _, rfl, .inl hq8, ?_⟩
    walk_at "gos"
    refine ⟨Int.le_trans (by decide) (most2 _), Int.lt_of_le_of_lt (most6 _) (by decide), ?_⟩
    refine lc_rng (lo := 0) (Int.toNat_le.mpr (Int.le_trans (most6 _) (by decide))) (fun _ => .bl true) (fun D nD i H' hi e QE hq' => ?_) fun D nD H' e hD => ?_
    · walk_at "gos"
      refine ⟨rfl, ?_⟩
      walk_at "gos"
      have hi6 : (i : Int) < 6 := Int.lt_of_lt_of_le (Int.lt_toNat.mp hi) (most6 _)
      refine ⟨a, ns, _, rfl, sqL_ext hq8 e, by omega, by omega, hl, fun p H9 np e9 cup => ?_⟩
      refine ⟨p, rfl, cup, fun H10 e10 cup10 => ?_⟩
      exact hq' H10 (ext_cup np e9 e10)
    · walk_at "gos"
      refine ⟨D, (List.range _).map (fun _ => true), rfl, SqL.of (by rw [hD, List.map_map]; rfl), ?_⟩
      rw [all_true]
      exact q H'
end
end At

namespace At
open L2 PyProof.Rows PySem.Spec PySem
/-- the law's call at the end of the top: the script is told as what it is, all else is old -/
theorem called_ {P : Program} {w : World} {K : PySem.W.Frag} {mg mb : Str → Option Value} {s₁ : Shared} {a : Addr} {vs : List Value} {ns : List Int} (T : Top w K mg) (KX : K.In s₁.heap) (hns : s₁.heap.Ns mainGlobals mg) (hb : s₁.heap.Ns builtinsNs mb)
    (hbb : ∀ x : Str, x ≠ "__name__" → mb x = bootBuiltins x) (lim : s₁.heap.NoLimit) (hg : s₁.gens = #[]) (ha : s₁.heap.get? a = some { cls := .type "list", data := .seq vs.toArray }) (hi : IntsAre vs ns) (hl : ns.length ≤ 63) :
    codeAny (model P w) callerA (.call (.ref (He.ga K "law")) ⟨[.ref a], []⟩) (fun r s' => r = .ok (.ret (.bool true)) ∧ OldK s₁.heap s'.heap ∧ s'.os = s₁.os ∧ AllBare s'.gens) s₁ := by
  have rv := vals_ints hi
  have few : ns.length ≤ sizeLine := by rw [sizeLine_eq]; omega
  obtain ⟨ob, eob⟩ : ∃ ob : Obj, ({ cls := .type "list", data := .seq vs.toArray } : Obj) = ob := ⟨_, rfl⟩
  obtain ⟨H, eH⟩ : ∃ H : Hp, (fun b => if b = a ∧ K.lookup a = none then some (.frz ob (.lst (ns.map V.int))) else none) = H := ⟨_, rfl⟩
  have only : ∀ b u, H b = some u → b = a ∧ K.lookup a = none ∧ u = .frz ob (.lst (ns.map V.int)) := fun b u h => by
    rw [← eH] at h
    by_cases c : b = a ∧ K.lookup a = none
    · have h := (if_pos c).symm.trans h
      cases h
      exact ⟨c.1, c.2, rfl⟩
    · have h := (if_neg c).symm.trans h
      cases h
  have clear : ∀ b, b ≠ a → H b = none := fun b n => by
    cases z : H b with
    | none => rfl
    | some u => exact absurd (only b u z).1 n
  have hok : HOk P w H s₁.heap := fun b u h => by
    obtain ⟨rfl, _, rfl⟩ := only b u h
    rw [← eob]
    exact ⟨ha, by rw [List.length_map]; exact few, vs, _, rv, ha⟩
  have sq : SqL K H a (ns.map V.int) := by
    cases hk : K.lookup a with
    | none => exact .inl (.inr ⟨ob, by rw [← eH]; exact if_pos ⟨rfl, hk⟩⟩)
    | some o =>
      have e := KX a o hk
      rw [ha] at e
      cases e
      exact .inr ⟨_, vs.toArray, _, hk, rfl, rfl, rfl, by rw [List.size_toArray, hi.length]; exact few, by simpa using rv⟩
  have keep : ∀ b o, s₁.heap.get? b = some o → H b = none → (hidT s₁.heap H).get? b = some o := fun b o e n => hidT_get e n
  have inK : K.In (hidT s₁.heap H) := fun b o e => keep b o (KX b o e) (by
    cases z : H b with
    | none => rfl
    | some u =>
      obtain ⟨rfl, k, _⟩ := only b u z
      rw [k] at e
      cases e)
  have dicts : ∀ {b : Addr} {m : Str → Option Value}, s₁.heap.Ns b m → (hidT s₁.heap H).Ns b m := fun {b m} z => by
    obtain ⟨o, es, ep, e, d, r⟩ := z
    refine ⟨o, es, ep, keep b o e (clear b fun eq => ?_), d, r⟩
    rw [eq, ha] at e
    cases e
    have d : Data.seq vs.toArray _ = Data.dict es ep := d
    cases d
  have e0 : Env0 P w K mg (hidT s₁.heap H) callerA [] s₁ H := ⟨rfl, ⟨inK, dicts hns, ⟨mb, dicts hb, hbb⟩, let ⟨mc, l1, l2⟩ := lim; ⟨mc, dicts l1, l2⟩⟩, fun b o e => of_hidT e, Nat.le_of_eq (hidT_size _ _), trivial, fun b z => absurd (show b ∈ ([] : List Addr) from z) (by simp), hok, .of_eq hg⟩
  have room : Room 40 callerA := ⟨rfl, by decide, by decide⟩
  refine codeAny_mono (gn_law (P := P) (w := w) (base := hidT s₁.heap H) T callerA [] s₁ H [.ref a] [.ref a] (fun v _ => v = .bl true) (fun _ _ _ => False) rfl (room.mono (by decide)) e0 (.cons rfl .nil) ⟨a, ns, rfl, sq, hl, fun _ => rfl⟩) fun r s' z => ?_
  match r, z with
  | .error _, z => exact (show False from z).elim
  | .ok (.ret u), z =>
    obtain ⟨v, H', os, bare, un, hok', rel, rfl⟩ := z
    cases (show u = Value.bool true from rel)
    (refine ⟨rfl, OldK.of_keep fun b o e => ?_, os, bare⟩)
    cases z : H b with
    | none => exact un.keep b o e z (fun m => absurd (show b ∈ ([] : List Addr) from m) (by simp)) (by simp)
    | some u =>
      obtain ⟨rfl, _, rfl⟩ := only b u z
      have here := (hok' b _ (un.frzs b ob _ z)).1
      rw [ha] at e
      cases e
      rw [eob]
      exact here
end At

open PyProof.Rows PySem.Calls PySem.W PySem
theorem PySem.Challenge.cw_arrowtrios_k31_whole_rows_put_together_holds : PySem.Challenge.rw_arrowtrios_k31_whole_rows_put_together.Holds := by
  w_on; o_law
  refine HandSHeadRun.head_any (r := At.R) (q := view At.R.prog [61]) (H := At.hk) (ob := At.ob) (M := 9000) (loose := At.loose) (d := HandSHeadRun.topDef At.R.prog 61) (kwd := []) At.ob_eq
    (by kernel_rfl) (fun s => by kernel_rfl) At.run (by kernel_rfl) (by kernel_rfl) (by kernel_rfl) (by rfl) (by first | assumption | decide +kernel) (by decide +kernel) ⟨rfl, rfl, rfl, rfl, rfl, by decide +kernel⟩ ?hw ?hc
  case hw => w_witness2
  case hc =>
    refine Att.attach_call (l := PySem.Challenge.rw_arrowtrios_k31_whole_rows_put_together) (n := 63) rfl (by kernel_rfl) fun w s₀ s₁ mg mb fa o pm cd doc a vs ns G Y ho hd hcd hmg hobj hints hlen hg => ?_
    obtain ⟨K, KX, says, tab, ex⟩ := Y
    have T : At.Top w K mg := ⟨says, tab, ex, ⟨_, KX, G.T.g⟩⟩
    have here : mg ("law" : PySem.Str) = some (.ref fa) := by
      have e : (HandSHeadRun.topDef At.R.prog 61).name = ("law" : PySem.Str) := by kernel_rfl
      rw [← e]
      exact hmg
    cases here.symm.trans T.g_law
    exact At.called_ T KX G.T.g G.T.b G.T.builtins G.T.nolimit hg hobj hints hlen
